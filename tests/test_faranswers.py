"""[67], [72], [73], [75]: answers and standings at places however far."""

import random
import unittest

from ledalong.faranswers import answer_at, answers_of, standing_at
from tests import plain
from tests.samples import (BRANCHING, GOLD, GROWING, LAST, NO_GROWING, NO_NUMBERS, SLOW, SLOW_RULE, THUE, TURN, Case, no_below,
                           no_fitting, some_machines)

COUNT = (((1, 0), (0, 0)), ((2, 0), (1, 0)), ((0, 1), (2, 0)))
PAIRS = [(rule, machine) for rule in GROWING for machine in some_machines(len(rule), 3)[::2 if len(rule) < 3 else 5]]
PAIRS += [(rule, machine) for rule in (THUE, GOLD) for machine in (TURN, LAST, SLOW, COUNT)]


def begun(pairs, most):
    """Rules, machines, letters, standings, levels, and blocks with at most so many letters, walked letter by letter.

    Of a block there is the list of its places: the letter, the standing in which it is heard, and the answer.
    """
    for rule, machine in pairs:
        for letter in range(len(rule)):
            for level in range(7):
                block = plain.block(rule, letter, level)
                if len(block) > most:
                    break
                for standing in range(len(machine)):
                    yield rule, machine, letter, standing, level, walked(machine, standing, block)


def walked(machine, standing, word):
    """Each letter of a word, the standing in which it is heard, and the answer."""
    places = []
    for a in word:
        places.append((a, standing, machine[standing][a][1]))
        standing = machine[standing][a][0]
    return places


class Tables:
    """Lengths and maps of the blocks of all levels up to one, each made from the level below."""

    def __init__(self, rule, machine, level):
        self.lengths = [[1] * len(rule)]
        self.maps = [[plain.goals(machine, (a,)) for a in range(len(rule))]]
        for _ in range(level):
            self.lengths.append([sum(self.lengths[-1][b] for b in block) for block in rule])
            maps = []
            for block in rule:
                goals = tuple(range(len(machine)))
                for b in block:
                    goals = tuple(self.maps[-1][b][q] for q in goals)
                maps.append(goals)
            self.maps.append(maps)


def piece_of(rule, tables, letter, standing, level, place):
    """The piece, a block of the level below, in which a place is: its letter, its standing, and the place in it."""
    for b in rule[letter]:
        if place < tables.lengths[level - 1][b]:
            return b, standing, place
        place -= tables.lengths[level - 1][b]
        standing = tables.maps[level - 1][b][standing]
    raise AssertionError


class FarAnswers(Case):

    def test_low_blocks(self):
        for k, (rule, machine, letter, standing, level, places) in enumerate(begun(PAIRS, 60)):
            where = (rule, machine, letter, standing, level)
            told = tuple(answer for _, _, answer in places)
            self.exactly(answers_of(*where, 0, len(places)), told)
            for place, (_, late, answer) in list(enumerate(places))[k % 3::3]:
                self.exactly(standing_at(*where, place), late)
                self.exactly(answer_at(*where, place), answer)

    def test_by_pieces(self):
        for rule, machine, letter, standing, level, places in begun(PAIRS[::8], 16):
            where = (rule, machine, letter, standing, level)
            told = tuple(answer for _, _, answer in places)
            for first in range(len(places) + 1):
                for many in range(len(places) - first + 1):
                    self.exactly(answers_of(*where, first, many), told[first:first + many])

    def test_far_places(self):
        chance = random.Random(15)
        for rule, machine in PAIRS[::5]:
            level = chance.choice((40, 100, 199, 200))
            tables = Tables(rule, machine, level)
            for letter in range(len(rule)):
                length = tables.lengths[level][letter]
                standing = chance.randrange(len(machine))
                far = min(length, 10 ** 60)
                for place in {0, length - 1, min(length, 10 ** 59) - 1, chance.randrange(far), chance.randrange(far)}:
                    where, at = (letter, standing), place
                    for below in range(level, 0, -1):
                        b, late, at = piece_of(rule, tables, *where, below, at)
                        where = (b, late)
                        if below % 70 == 1:
                            self.exactly(standing_at(rule, machine, letter, standing, level, place),
                                         standing_at(rule, machine, *where, below - 1, at))
                            self.exactly(answer_at(rule, machine, letter, standing, level, place),
                                         answer_at(rule, machine, *where, below - 1, at))
                    self.exactly(standing_at(rule, machine, letter, standing, level, place), where[1])
                    self.exactly(answer_at(rule, machine, letter, standing, level, place), machine[where[1]][where[0]][1])

    def test_far_pieces(self):
        chance = random.Random(16)
        for rule, machine in PAIRS[::9]:
            tables = Tables(rule, machine, 200)
            for letter in range(len(rule)):
                length = tables.lengths[200][letter]
                where = (rule, machine, letter, 0, 200)
                for first in (chance.randrange(min(length, 10 ** 60) - 30), length - 30):
                    told = answers_of(*where, first, 30)
                    self.exactly(told, tuple(answer_at(*where, first + k) for k in range(30)))
                    self.exactly(answers_of(*where, first, 11) + answers_of(*where, first + 11, 19), told)
                self.exactly(answers_of(*where, length, 0), ())
                self.exactly(answers_of(*where, length - 1, 1), (answer_at(*where, length - 1),))
                self.refused("many", answers_of, *where, length, 1)
                self.refused("many", answers_of, *where, length + 1, 0)
                self.refused("place", answer_at, *where, length)
        # A seam of two great pieces is walked over.
        lengths = Tables(THUE, TURN, 200).lengths
        self.exactly(lengths[200][0], 2 ** 200)
        seam = answers_of(THUE, TURN, 0, 1, 200, 2 ** 199 - 3, 6)
        ahead = answers_of(THUE, TURN, 0, 1, 199, 2 ** 199 - 3, 3)
        self.exactly(seam, ahead + answers_of(THUE, TURN, 1, standing_at(THUE, TURN, 0, 1, 200, 2 ** 199), 199, 0, 3))

    def test_two_thousand(self):
        for rule, machine in ((THUE, TURN), (GOLD, COUNT), (SLOW_RULE, some_machines(4, 3)[-1])):
            low = next(n for n in range(60) if len(plain.block(rule, 0, n)) > 3000)
            told = tuple(answer for _, _, answer in walked(machine, 0, plain.block(rule, 0, low)))
            self.exactly(answers_of(rule, machine, 0, 0, low, 500, 2000), told[500:2500])

    def test_a_block_that_begins_another_one(self):
        # Along GOLD block(0, n) begins block(0, n + 1), and block(1, n + 1) is block(0, n).
        for machine in (TURN, LAST, SLOW, COUNT):
            for standing in range(len(machine)):
                told = answers_of(GOLD, machine, 0, standing, 10, 0, 50)
                for level in (11, 50, 200):
                    self.exactly(answers_of(GOLD, machine, 0, standing, level, 0, 50), told)
                    self.exactly(answers_of(GOLD, machine, 1, standing, level, 0, 50), told)

    def test_edges(self):
        one = (((0, 3), (0, 4)),)
        self.exactly([answers_of(GOLD, one, 1, 0, 0, 0, 1), answers_of(GOLD, one, 1, 0, 0, 1, 0), answers_of(GOLD, one, 0, 0, 0, 0, 0)],
                     [(4,), (), ()])
        self.exactly([standing_at(GOLD, one, 1, 0, 0, 0), answer_at(GOLD, one, 1, 0, 1, 0)], [0, 3])
        single = (((1, 7),), ((2, 8),), ((2, 9),))
        self.exactly(answers_of(((0, 0, 0),), single, 0, 0, 1, 0, 3), (7, 8, 9))
        self.exactly([answer_at(((0, 0, 0),), single, 0, 0, 100, place) for place in (0, 1, 2, 10 ** 47)], [7, 8, 9, 9])
        ring = tuple((((q + 1) % 3, q),) for q in range(3))
        self.exactly([answer_at(((0, 0),), ring, 0, q, 200, 10 ** 59) for q in range(3)], [(10 ** 59 + q) % 3 for q in range(3)])

    def test_refusals(self):
        wrong = {"rule": NO_GROWING, "machine": no_fitting(2), "letter": no_below(2), "standing": no_below(2), "level": NO_NUMBERS,
                 "first": NO_NUMBERS, "many": NO_NUMBERS + (7, 8, 10 ** 59), "place": no_below(8)}
        right = {"rule": THUE, "machine": TURN, "letter": 1, "standing": 1, "level": 3}
        self.refuses_each(answers_of, {**right, "first": 2, "many": 3}, wrong)
        for function in (standing_at, answer_at):
            self.refuses_each(function, {**right, "place": 7}, wrong)
        right = {"rule": GOLD, "machine": LAST, "letter": 0, "standing": 1, "level": 4}
        self.refuses_each(answers_of, {**right, "first": 8, "many": 0}, {**wrong, "many": NO_NUMBERS + (1, 2)})
        self.refused("standing", answers_of, GOLD, COUNT, 0, 3, 1, 0, 0)
        self.refused("place", answer_at, GOLD, COUNT, 1, 2, 0, 1)
        for first in (9, 10, 10 ** 59):
            self.refused("many", answers_of, GOLD, LAST, 0, 0, 4, first, 0)


class SlowMeans(unittest.TestCase):

    def test_many_cases(self):
        self.assertGreater(len(PAIRS), 100)
        self.assertEqual({len(machine) for _, machine in PAIRS}, {1, 2, 3})
        self.assertTrue({rule for rule, _ in PAIRS} >= set(BRANCHING))


if __name__ == "__main__":
    unittest.main()
