"""[43], [44], [47]: where words lead."""

import itertools
import math
import unittest

from ledalong.leading import answers_to, joined_map, leads, map_of, map_round, rank_of
from tests import plain
from tests.samples import (LAST, MACHINES, NO_MACHINES, NO_MAPS, SLOW, TURN, Case, no_below, no_maps, no_words,
                           some_machines, words_over)

EACH = tuple(machine for letters in (1, 2, 3, 4) for machine in some_machines(letters)) + MACHINES


def walked(machine, standing, word):
    """The standings in which the letters of a word are heard, and the one behind it."""
    way = [standing]
    for a in word:
        way.append(machine[way[-1]][a][0])
    return way


def plain_round(first):
    """Start and period of map_round, map by map."""
    maps = [tuple(range(len(first)))]
    while True:
        late = tuple(first[goal] for goal in maps[-1])
        if late in maps:
            return maps.index(late), len(maps) - maps.index(late)
        maps.append(late)


class Leading(Case):

    def test_each_letter(self):
        for machine in EACH:
            letters = len(machine[0])
            for word in words_over(letters, 5 if letters < 3 else 3):
                for q in range(len(machine)):
                    way = walked(machine, q, word)
                    self.exactly(leads(machine, q, word), way[-1])
                    told = tuple(machine[s][a][1] for s, a in zip(way, word))
                    self.exactly(answers_to(machine, q, word), told)
                    self.exactly((way[-1], told), plain.run(machine, q, word))

    def test_maps_and_ranks(self):
        for machine in EACH:
            letters = len(machine[0])
            for word in words_over(letters, 5 if letters < 3 else 3):
                goals = tuple(walked(machine, q, word)[-1] for q in range(len(machine)))
                self.exactly(map_of(machine, word), goals)
                self.exactly(rank_of(machine, word), len(set(goals)))

    def test_long_words(self):
        chance = (0, 1, 1, 0, 1, 0, 0, 1, 1, 1)
        for machine in EACH:
            word = tuple(k % len(machine[0]) for k in chance * 4)
            for q in range(len(machine)):
                self.exactly((leads(machine, q, word), answers_to(machine, q, word)), plain.run(machine, q, word))
            self.exactly(map_of(machine, word), plain.goals(machine, word))
        self.exactly(leads(TURN, 0, (1,) * 2001), 1)
        self.exactly((rank_of(SLOW, (0,)), rank_of(SLOW, (0,) * 40)), (2, 1))

    def test_edges(self):
        for machine in EACH:
            many = len(machine)
            self.exactly([leads(machine, q, ()) for q in range(many)], list(range(many)))
            self.exactly([answers_to(machine, q, ()) for q in range(many)], [()] * many)
            self.exactly((map_of(machine, ()), rank_of(machine, ())), (tuple(range(many)), many))
        one = (((0, 7),),)
        self.exactly([leads(one, 0, (0, 0)), answers_to(one, 0, (0, 0)), map_of(one, (0,)), rank_of(one, (0,))],
                     [0, (7, 7), (0,), 1])
        self.exactly(answers_to((((0, 10 ** 59), (0, 99)),), 0, (1, 0)), (99, 10 ** 59))

    def test_joined_map(self):
        for many in (1, 2, 3):
            maps = list(itertools.product(range(many), repeat=many))
            for first, second in itertools.product(maps, maps):
                expected = []
                for q in range(many):
                    expected.append(second[first[q]])
                self.exactly(joined_map(first, second), tuple(expected))
        self.exactly(joined_map((1, 2, 3, 0, 0), (4, 3, 2, 1, 0)), (3, 2, 1, 4, 4))

    def test_joined_map_is_that_of_both_words(self):
        for machine in EACH:
            words = words_over(len(machine[0]), 2)
            for word, other in itertools.product(words, words):
                both = map_of(machine, word + other)
                self.exactly(joined_map(map_of(machine, word), map_of(machine, other)), both)
                self.assertLessEqual(len(set(both)), min(rank_of(machine, word), rank_of(machine, other)))

    def test_map_round(self):
        for many in (1, 2, 3, 4, 5):
            for first in itertools.product(range(many), repeat=many):
                start, period = plain_round(first)
                self.exactly(map_round(first), (start, period))
                self.assertTrue(start < many)
                self.assertEqual(start == 0, len(set(first)) == many)
        self.exactly(map_round((0,)), (0, 1))
        self.exactly(map_round((0, 0, 0, 0, 0)), (1, 1))
        self.exactly(map_round((1, 2, 3, 4, 4)), (4, 1))
        self.exactly(map_round((1, 0, 3, 4, 2)), (0, 6))

    def test_map_round_of_long_maps(self):
        turns, far = [], ()
        for turn in (2, 3, 5, 7, 11, 13):
            far += tuple(len(far) + (k + 1) % turn for k in range(turn))
            turns.append(turn)
            self.exactly(map_round(far), (0, math.prod(turns)))
        tail = tuple(range(1, 40)) + (37,)
        self.exactly(map_round(tail), (37, 3))

    def test_map_round_is_that_of_words(self):
        for machine in EACH:
            word = (0, len(machine[0]) - 1)
            start, period = map_round(map_of(machine, word))
            far = [map_of(machine, word * k) for k in range(start + period + 1)]
            self.assertEqual(far[start], far[start + period])
            self.assertEqual(len(set(far)), start + period)

    def test_refusals(self):
        wrong = {"machine": NO_MACHINES, "standing": no_below(2), "word": no_words(2)}
        for function in (leads, answers_to):
            for machine in (TURN, LAST):
                self.refuses_each(function, {"machine": machine, "standing": 1, "word": (0, 1, 1)}, wrong)
        for function in (map_of, rank_of):
            self.refuses_each(function, {"machine": TURN, "word": (0, 1)}, wrong)
        self.refused("word", leads, (((0, 0),),), 0, (1,))
        self.refused("standing", answers_to, (((0, 0),),), 1, (1,))

    def test_maps_refused(self):
        wrong = {"first": NO_MAPS, "second": no_maps(2)}
        self.refuses_each(joined_map, {"first": (1, 0), "second": (0, 0)}, wrong)
        self.refuses_each(map_round, {"first": (1, 0)}, {"first": NO_MAPS})
        self.refused("second", joined_map, (0,), (0, 1))
        self.refused("second", joined_map, (0, 1, 2), (0, 1))
        self.refused("first", joined_map, (0, 1, 3), (0, 1))
        self.refused("first", map_round, ((0, 0),))


if __name__ == "__main__":
    unittest.main()
