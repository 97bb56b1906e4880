"""[74], [75]: how often answers come, and where they come first."""

import collections
import random
import unittest

from ledalong.answercounts import counts_of, first_of
from ledalong.faranswers import answer_at
from tests.samples import GOLD, LAST, NO_GROWING, NO_NUMBERS, SLOW_RULE, THUE, TURN, Case, no_below, no_fitting
from tests.test_faranswers import COUNT, PAIRS, Tables, begun, piece_of


def counted(answers):
    """Pairs of each answer and how often it comes, ascending."""
    return tuple(sorted(collections.Counter(answers).items()))


def added(*counts):
    """Pairs of answers and how often they come, added up."""
    total = collections.Counter()
    for pairs in counts:
        total.update(dict(pairs))
    return tuple(sorted(total.items()))


class AnswerCounts(Case):

    def test_low_blocks(self):
        for k, (rule, machine, letter, standing, level, places) in enumerate(begun(PAIRS, 60)):
            where = (rule, machine, letter, standing, level)
            told = [answer for _, _, answer in places]
            for many in {0, 1, len(told) // 2, k % (len(told) + 1), len(told)}:
                if many <= len(told):
                    self.exactly(counts_of(*where, many), counted(told[:many]))
            for answer in {0, 1, 2, 7}:
                self.exactly(first_of(*where, answer), told.index(answer) if answer in told else None)

    def test_each_number_of_answers(self):
        for rule, machine, letter, standing, level, places in begun(PAIRS[::9], 30):
            told = [answer for _, _, answer in places]
            before = ()
            for many in range(len(told) + 1):
                now = counts_of(rule, machine, letter, standing, level, many)
                self.exactly(now, counted(told[:many]))
                self.exactly(sum(often for _, often in now), many)
                if many > 0:
                    self.exactly(now, added(before, ((told[many - 1], 1),)))
                before = now

    def test_far_counts(self):
        chance = random.Random(17)
        for rule, machine in PAIRS[::9]:
            tables = Tables(rule, machine, 200)
            for letter in range(len(rule)):
                where = (rule, machine, letter, 0, 200)
                length = tables.lengths[200][letter]
                for many in (chance.randrange(min(length, 10 ** 60)), length - 1):
                    # All pieces of the level below that are whole, and the rest of one.
                    _, late, rest = piece_of(rule, tables, letter, 0, 200, many)
                    told, standing, left = [], 0, many
                    for b in rule[letter]:
                        size = min(left, tables.lengths[199][b])
                        told.append(counts_of(rule, machine, b, standing, 199, size))
                        standing, left = tables.maps[199][b][standing], left - size
                        if left == 0:
                            break
                    now = counts_of(*where, many)
                    self.exactly(now, added(*told))
                    self.exactly(sum(often for _, often in now), many)
                    self.exactly(counts_of(*where, many + 1), added(now, ((answer_at(*where, many), 1),)))
                    self.assertLessEqual(rest, many)
                    self.assertIn(late, range(len(machine)))
                self.exactly(sum(often for _, often in counts_of(*where, length)), length)
                self.refused("many", counts_of, *where, length + 1)

    def test_far_firsts(self):
        found = set()
        for rule, machine in PAIRS[::5]:
            answers = {answer for part in machine for _, answer in part}
            for answer in answers | {99}:
                place = first_of(rule, machine, 0, 0, 150, answer)
                found.add(place is None)
                if place is None:
                    self.assertNotIn(answer, dict(counts_of(rule, machine, 0, 0, 150, Tables(rule, machine, 150).lengths[150][0])))
                else:
                    self.exactly(answer_at(rule, machine, 0, 0, 150, place), answer)
                    self.assertNotIn(answer, dict(counts_of(rule, machine, 0, 0, 150, place)))
                    self.exactly(dict(counts_of(rule, machine, 0, 0, 150, place + 1))[answer], 1)
        self.assertEqual(found, {True, False})

    def test_answers_that_come_late(self):
        far = ((0, 0, 0, 1), (1, 0, 0, 0))
        one = (((0, 5), (0, 6)),)
        self.exactly([first_of(far, one, 0, 0, level, 6) for level in (0, 1, 2, 100)], [None, 3, 3, 3])
        # By this rule each fourth level begins the next fourth one: 0, 01, 0112, 01121223.
        single = (((0, 0), (0, 0), (0, 0), (0, 9)),)
        self.exactly([first_of(SLOW_RULE, single, 0, 0, level, 9) for level in (0, 1, 2, 3, 4, 8, 12, 200)],
                     [None, None, None, 0, None, None, 7, 7])
        self.exactly([first_of(THUE, TURN, 0, 0, level, 1) for level in (0, 1, 2, 200)], [None, None, 2, 2])

    def test_edges(self):
        one = (((0, 3), (0, 4)),)
        self.exactly([counts_of(GOLD, one, 1, 0, 0, 0), counts_of(GOLD, one, 1, 0, 0, 1), counts_of(GOLD, one, 0, 0, 2, 3)],
                     [(), ((4, 1),), ((3, 2), (4, 1))])
        self.exactly([first_of(GOLD, one, 1, 0, 0, 4), first_of(GOLD, one, 1, 0, 0, 3), first_of(GOLD, one, 0, 0, 200, 10 ** 59)],
                     [0, None, None])
        self.exactly(counts_of(GOLD, COUNT, 0, 0, 200, 0), ())
        self.exactly(counts_of(THUE, (((0, 10 ** 59), (1, 3)), ((0, 99), (1, 8))), 0, 0, 4, 16), ((3, 5), (8, 3), (99, 5), (10 ** 59, 3)))

    def test_refusals(self):
        wrong = {"rule": NO_GROWING, "machine": no_fitting(2), "letter": no_below(2), "standing": no_below(2), "level": NO_NUMBERS,
                 "many": no_below(9), "answer": NO_NUMBERS}
        right = {"rule": THUE, "machine": TURN, "letter": 1, "standing": 1, "level": 3}
        self.refuses_each(counts_of, {**right, "many": 8}, wrong)
        self.refuses_each(first_of, {**right, "answer": 1}, wrong)
        right = {"rule": GOLD, "machine": LAST, "letter": 0, "standing": 1, "level": 4}
        self.refuses_each(counts_of, {**right, "many": 0}, wrong)
        self.refused("answer", first_of, GOLD, LAST, 0, 1, 4, True)


if __name__ == "__main__":
    unittest.main()
