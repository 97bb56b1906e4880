"""[100], [101], [102]: shares of answers, and readers that show them."""

import collections
import fractions
import random
import unittest

from ledalong.answercounts import counts_of
from ledalong.answerreaders import answer_reader, answer_shares
from ledalong.answerrows import AnswerRow
from ledalong.faranswers import answer_at
from ledalong.farplaces import seeds
from ledalong.kernels import every
from ledalong.kinds import is_reader
from ledalong.readers import least_reader, number_read, reader_of
from ledalong.shares import share_of_word, shares_of
from ledalong.worlds import words_of
from tests import plain
from tests.samples import (DOUBLE, GOLD, LAST, LONG, NO_GROWING, NO_RULES, RULES, THUE, TURN, Case, no_below, no_fitting,
                           some_machines)
from tests.test_faranswers import COUNT, Tables, walked
from tests.test_readers import plain_least, plain_read
from tests.test_shares import EVEN, UNEVEN, lasting, told

Fraction = fractions.Fraction
FAR = 5000
# By this rule and machine, blocks of a pair have such of the other half of the pairs alone, and these of the first half.
TURNS = ((1, 0, 1), (0, 1, 0)), (((1, 0), (1, 1)), ((0, 2), (0, 3)))
# Three lots in turn: along a row a letter less its standing stays the same, in a block it is one more.
THREE = ((1, 2, 0, 1), (2, 0, 1, 2), (0, 1, 2, 0)), tuple(tuple(((q + 1) % 3, 3 * a + q) for a in range(3)) for q in range(3))
APART = (((0, 0), (0, 1)), ((1, 2), (1, 2)), ((2, 1), (2, 0)))


def plain_round(rule, machine, most=40):
    """The maps of the blocks of all levels up to most, and start and period of the families; None if they are further."""
    maps = [tuple(row) for row in Tables(rule, machine, most).maps]
    for level in range(most + 1):
        if maps[level] in maps[:level]:
            start = maps.index(maps[level])
            return maps, start, level - start
    return None


def with_rounds():
    """Even rules, machines, and maps, starts and periods of their families, where blocks of these levels are not long."""
    found = []
    for rule in EVEN:
        for machine in some_machines(len(rule), 3):
            round_told = plain_round(rule, machine)
            if round_told is not None and len(rule[0]) ** max(round_told[1:]) <= FAR:
                found.append((rule, machine, round_told))
    return found


ROUNDS = with_rounds()
PAIRS = [(rule, machine) for rule, machine, _ in ROUNDS]


def plain_lots(rule, round_told, many):
    """The lots, into which least closed ones fall, of pairs of a letter and a standing, with the share of each pair."""
    maps, start, period = round_told
    counts = {}
    for a in range(len(rule)):
        for q in range(many):
            standing, pairs = q, []
            for b in plain.block(rule, a, period):
                pairs.append((b, standing))
                standing = maps[start][b][standing]
            counts[a, q] = collections.Counter(pairs)
    reach = {pair: reached_from(counts, pair) for pair in counts}
    found = []
    for whole in {frozenset(lot) for lot in reach.values() if all(reach[pair] == lot for pair in lot)}:
        for lot in falling(counts, whole):
            turned = turns(counts, lot)
            weights = lasting([[turned[one][other] for other in sorted(lot)] for one in sorted(lot)])
            found.append(dict(zip(sorted(lot), weights)))
    return found


def reached_from(counts, pair):
    """All pairs that stand in blocks of a pair, of any level above 0, and it itself."""
    found, todo = {pair}, [pair]
    for one in todo:
        todo += [other for other in counts[one] if other not in found]
        found |= set(counts[one])
    return found


def falling(counts, whole):
    """The lots into which a least closed one falls: what stands in blocks of one pair of greater and greater levels."""
    lot = {min(whole)}
    seen = []
    while lot not in seen:
        seen.append(lot)
        lot = {other for one in lot for other in counts[one]}
    return seen[seen.index(lot):]


def turns(counts, lot):
    """How often each pair of a lot stands in the block, of so many levels as lead back to the lot, of each one."""
    found = {one: collections.Counter({one: 1}) for one in lot}
    while True:
        for one in lot:
            behind = collections.Counter()
            for other, often in found[one].items():
                for far, more in counts[other].items():
                    behind[far] += often * more
            found[one] = behind
        if set(found[min(lot)]) <= set(lot):
            return found


def plain_answer_shares(rule, machine, round_told):
    """The set of the tuples of answers and shares."""
    start = round_told[1]
    found = set()
    for lot in plain_lots(rule, round_told, len(machine)):
        shares = collections.Counter()
        for (a, q), weight in lot.items():
            for answer, often in collections.Counter(plain.run(machine, q, plain.block(rule, a, start))[1]).items():
                shares[answer] += weight * often / Fraction(len(rule[0]) ** start)
        found.add(tuple((answer, told(share)) for answer, share in sorted(shares.items())))
    return tuple(sorted(found))


def near(counts, shares, most):
    """Whether how often answers came is about what their shares tell."""
    whole = sum(often for _, often in counts)
    part = {answer: Fraction(often, whole) for answer, often in counts}
    rest = {answer: Fraction(*share) for answer, share in shares}
    return all(abs(part.get(answer, 0) - rest.get(answer, 0)) < most for answer in {**part, **rest})


def soon_forgotten(rule, machine):
    """The delay of a machine that forgets, if it is at most five; or None."""
    for length in range(6):
        if all(len(set(plain.goals(machine, word))) == 1 for word in words_of(rule, length)):
            return length
    return None


class AnswerShares(Case):

    def test_lots(self):
        found = collections.Counter()
        lots = collections.Counter()
        for rule, machine, round_told in ROUNDS:
            expected = plain_answer_shares(rule, machine, round_told)
            self.exactly(answer_shares(rule, machine), expected)
            found[len(expected)] += 1
            lots[len(plain_lots(rule, round_told, len(machine)))] += 1
        self.assertTrue(set(found) >= {1, 2, 3})
        self.assertTrue(set(lots) >= {1, 2, 3})
        self.exactly(answer_shares(rule=THUE, machine=TURN), answer_shares(THUE, TURN))

    def test_lots_that_fall_in_turn(self):
        rule, machine = TURNS
        round_told = plain_round(rule, machine)
        lots = plain_lots(rule, round_told, 2)
        self.assertEqual(sorted(sorted(lot) for lot in lots), [[(0, 0), (1, 1)], [(0, 1), (1, 0)]])
        self.exactly(answer_shares(rule, machine), plain_answer_shares(rule, machine, round_told))
        # Each row has one half of the answers, whatever it begins with.
        for letter in range(2):
            for standing in range(2):
                for level in (20, 21, 200):
                    counts = counts_of(rule, machine, letter, standing, level, 3 ** level)
                    self.assertEqual(sum(near(counts, shares, Fraction(1, 10 ** 6)) for shares in answer_shares(rule, machine)), 1)
        round_told = plain_round(*THREE)
        self.exactly(answer_shares(*THREE), plain_answer_shares(*THREE, round_told))
        self.exactly(answer_shares(*THREE), tuple(tuple((answer, (1, 3)) for answer in answers) for answers in ((0, 4, 8), (1, 5, 6), (2, 3, 7))))
        for letter, _ in seeds(THREE[0]):
            for standing in range(3):
                self.assertIn(AnswerRow(*THREE, letter, standing).counted(3 * 10 ** 50),
                              [tuple((answer, 10 ** 50) for answer, _ in shares) for shares in answer_shares(*THREE)])
        turning = 0
        for rule, machine, round_told in ROUNDS:
            lots = plain_lots(rule, round_told, len(machine))
            turning += any(set(one) & set(other) == set() for one in lots for other in lots if one is not other)
        self.assertGreater(turning, 20)

    def test_several_lots(self):
        for rule in (THUE, DOUBLE):
            shares = shares_of(rule)
            expected = sorted((((0, shares[0]), (1, shares[1])), ((2, (1, 1)),), ((0, shares[1]), (1, shares[0]))))
            self.exactly(answer_shares(rule, APART), tuple(sorted(set(expected))))
        self.exactly(len(answer_shares(THUE, APART)), 2)
        # From the standing 0 one never comes back: what it answers has no share.
        gone = (((1, 7), (1, 8)), ((1, 0), (1, 1)))
        self.exactly(answer_shares(THUE, gone), (((0, (1, 2)), (1, (1, 2))),))

    def test_in_rows(self):
        chance = random.Random(100)
        for rule, machine, _ in ROUNDS[::4]:
            shares = answer_shares(rule, machine)
            for letter, _ in seeds(rule)[:2]:
                row = AnswerRow(rule, machine, letter, chance.randrange(len(machine)))
                counts = row.counted(10 ** 120 + chance.randrange(10 ** 120))
                self.assertTrue(any(near(counts, one, Fraction(1, 10 ** 4)) for one in shares))

    def test_shares_together(self):
        for rule, machine, _ in ROUNDS[::3]:
            for shares in answer_shares(rule, machine):
                self.assertEqual(sum(Fraction(*share) for _, share in shares), 1)
                self.assertTrue(all(share[0] > 0 for _, share in shares))
                self.exactly([answer for answer, _ in shares], sorted({answer for answer, _ in shares}))

    def test_machines_that_forget(self):
        forgetting = 0
        for rule, machine, _ in ROUNDS[::2]:
            delay = soon_forgotten(rule, machine)
            if delay is not None:
                forgetting += 1
                shares = collections.Counter()
                for word in words_of(rule, delay + 1):
                    shares[plain.run(machine, 0, word)[1][-1]] += Fraction(*share_of_word(rule, word))
                self.exactly(answer_shares(rule, machine), (tuple((answer, told(share)) for answer, share in sorted(shares.items())),))
        self.assertGreater(forgetting, 100)

    def test_edges(self):
        one = (((0, 5),),)
        ring = (((1, 3),), ((2, 4),), ((0, 3),))
        self.exactly([answer_shares(((0, 0),), one), answer_shares(((0, 0),), ring), answer_shares(((0, 0, 0),), ring)],
                     [(((5, (1, 1)),),), (((3, (2, 3)), (4, (1, 3))),), (((3, (2, 3)), (4, (1, 3))),)])
        single = (((0, 99), (0, 0)),)
        self.exactly([answer_shares(THUE, single), answer_shares(DOUBLE, single), answer_shares(DOUBLE, (((0, 4), (0, 4)),))],
                     [(((0, (1, 2)), (99, (1, 2))),), (((0, (1, 3)), (99, (2, 3))),), (((4, (1, 1)),),)])

    def test_refusals(self):
        wrong = {"rule": NO_GROWING + UNEVEN, "machine": no_fitting(2)}
        self.refuses_each(answer_shares, {"rule": THUE, "machine": TURN}, wrong)
        self.refused("rule", answer_shares, GOLD, LAST)


class AnswerReaders(Case):

    def test_rows_walked(self):
        sizes = collections.Counter()
        rules = [rule for rule in RULES if len({len(block) for block in rule}) == 1 and len(rule[0]) > 1 and rule[0][0] == 0]
        self.assertTrue({((0, 0), (0, 0)), ((0, 0), (1, 1)), ((0, 1), (1, 1))} <= set(rules))
        cases = [(rule, machine) for rule, machine in PAIRS if rule[0][0] == 0]
        cases += [(rule, machine) for rule in rules for machine in some_machines(len(rule), 2)]
        for rule, machine in cases:
            level = 1
            while len(rule[0]) ** level < 300:
                level += 1
            word = plain.block(rule, 0, level)[:300]
            for standing in range(len(machine)):
                reader = answer_reader(rule, machine, standing)
                self.assertTrue(is_reader(reader))
                self.assertEqual(reader[0], len(rule[0]))
                self.exactly([plain_read(reader, number) for number in range(len(word))],
                             [answer for _, _, answer in walked(machine, standing, word)])
                self.exactly(least_reader(reader), reader)
                if reader[0] ** len(reader[1]) < 500:
                    self.exactly(plain_least(reader), reader)
                sizes[len(reader[1])] += 1
        self.assertGreater(len(sizes), 25)
        self.exactly(answer_reader(rule=THUE, machine=TURN, standing=0), answer_reader(THUE, TURN, 0))

    def test_far_places(self):
        chance = random.Random(101)
        for rule, machine in [(rule, machine) for rule, machine in PAIRS if rule[0][0] == 0][::4]:
            standing = chance.randrange(len(machine))
            reader = answer_reader(rule, machine, standing)
            row = AnswerRow(rule, machine, 0, standing)
            for place in (0, 10 ** 59, chance.randrange(10 ** 60), chance.randrange(10 ** 30)):
                self.exactly(number_read(reader, place), row[place][2])
                self.exactly(number_read(reader, place), answer_at(rule, machine, 0, standing, 200, place))

    def test_known_readers(self):
        # It answers the letter that it hears: the reader of the rule; it turns at 1: of the letter and of the standing.
        same = (((0, 0), (0, 1)),)
        for rule in (THUE, DOUBLE):
            self.exactly(answer_reader(rule, same, 0), reader_of(rule))
        self.exactly([len(answer_reader(THUE, TURN, 0)[1]), len(answer_reader(THUE, TURN, 1)[1])], [8, 8])
        both = zip(answer_reader(THUE, TURN, 0)[2], answer_reader(THUE, TURN, 1)[2])
        self.assertEqual([one + other for one, other in both], [1] * 8)
        # Each second letter by THUE and the one behind it are unlike.
        unlike = (((1, 0), (2, 0)), ((1, 0), (2, 1)), ((1, 1), (2, 0)))
        self.exactly(every(answer_reader(THUE, unlike, 0), 2, 1), (2, ((0, 0),), (1,)))

    def test_edges(self):
        one = (((0, 5),),)
        ring = (((1, 3),), ((2, 4),), ((0, 3),))
        self.exactly([answer_reader(((0, 0),), one, 0), answer_reader(((0, 0, 0),), ring, 0), answer_reader(((0, 0),), ring, 1)],
                     [(2, ((0, 0),), (5,)), (3, ((0, 1, 0), (0, 1, 0)), (3, 4)), (2, ((0, 1), (2, 0), (1, 2)), (4, 3, 3))])
        self.exactly(number_read(answer_reader(((0, 0),), ring, 1), 10 ** 59), ring[(10 ** 59 + 1) % 3][0][1])
        self.exactly(answer_reader(THUE, (((0, 7), (0, 7)),), 0), (2, ((0, 0),), (7,)))

    def test_refusals(self):
        uneven = (GOLD, ((0,),), ((1,), (0,)), ((1, 0), (0, 1)), ((0, 1), (0,)), ((0,), (0,)), ((1, 1), (0, 0)), TURNS[0])
        wrong = {"rule": NO_RULES + uneven, "machine": no_fitting(2), "standing": no_below(2)}
        self.refuses_each(answer_reader, {"rule": THUE, "machine": TURN, "standing": 1}, wrong)
        self.refused("machine", answer_reader, LONG, TURN, 0)
        self.refused("standing", answer_reader, DOUBLE, COUNT, 3)


if __name__ == "__main__":
    unittest.main()
