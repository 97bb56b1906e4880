"""[49], [50]: which machine may replace which one, whatever the rule."""

import itertools
import unittest

from ledalong.changes import answers_renamed, standings_renamed
from ledalong.likeness import merged
from ledalong.replacing import are_alike, may_replace, unmet
from tests import plain
from tests.samples import (LAST, MACHINES, NO_MACHINES, SLOW, TURN, Case, no_fitting, some_machines, words_over)
from tests.test_likeness import ROUND, STILL

ZERO, FLIP = (((0, 0),),), (((1, 0),), ((0, 1),))
LINE = (((1, 0),), ((2, 0),), ((3, 0),), ((3, 1),))
LONGEST = {1: 9, 2: 6, 3: 4, 4: 3}


def near(machine):
    """Machines that are like one, or nearly so."""
    last = tuple(tuple((goal, answer + (q + 1 == len(machine))) for goal, answer in part) for q, part in enumerate(machine))
    found = [machine, merged(machine), standings_renamed(machine, tuple(range(len(machine)))[::-1]), last]
    return found + [answers_renamed(machine, ((0, 1), (1, 0))), machine[:1] if machine[0][0][0] == 0 else machine]


def pairs():
    """Pairs of machines with as many letters."""
    found = []
    for letters in (1, 2, 3, 4):
        machines = some_machines(letters) + [machine for machine in MACHINES if len(machine[0]) == letters]
        chosen = machines[::2] if letters < 3 else machines[::4]
        found.extend(itertools.product(chosen, chosen))
        for machine in machines:
            found.extend((machine, other) for other in near(machine) if all(goal < len(other) for part in other for goal, _ in part))
            found.extend((other, machine) for other in near(machine) if all(goal < len(other) for part in other for goal, _ in part))
    return found + list(itertools.product((ROUND, STILL, ZERO, FLIP, LINE), repeat=2))


PAIRS = pairs()


def lacking(one, other, word):
    """The standings of one of which no standing of other gives the answers to the word."""
    told = {plain.run(other, t, word)[1] for t in range(len(other))}
    return [s for s in range(len(one)) if plain.run(one, s, word)[1] not in told]


def plain_unmet(one, other):
    """What unmet tells of words that are not too long; None if none of these shows it."""
    for word in words_over(len(one[0]), LONGEST[len(one[0])]):
        found = lacking(one, other, word)
        if found:
            return word, found[0]
    return None


def are_alike_by_words(one, other):
    """Whether each standing of either has one of the other that is alike."""
    there = all(any(plain.alike(one, s, other, t) for t in range(len(other))) for s in range(len(one)))
    return there and all(any(plain.alike(one, s, other, t) for s in range(len(one))) for t in range(len(other)))


class Replacing(Case):

    def test_are_alike(self):
        found = set()
        for one, other in PAIRS:
            expected = are_alike_by_words(one, other)
            found.add(expected)
            self.assertIs(are_alike(one, other), expected)
            self.assertIs(are_alike(other, one), expected)
        self.assertEqual(found, {True, False})

    def test_unmet(self):
        for one, other in PAIRS:
            found = unmet(one, other)
            self.assertIs(may_replace(one, other), found is None)
            expected = plain_unmet(one, other)
            if expected is not None or found is None:
                self.exactly(found, expected)
            else:
                word, standing = found
                self.exactly(lacking(one, other, word)[0], standing)
                self.exactly(lacking(one, other, word[:-1]), [])
                self.assertGreater(len(word), LONGEST[len(one[0])])

    def test_many_machines_show_both(self):
        shown = [unmet(one, other) for one, other in PAIRS]
        self.assertGreater(sum(found is None for found in shown), 50)
        self.assertGreater(len(set(shown)), 30)

    def test_alike_machines_replace_each_other(self):
        for one, other in PAIRS:
            if are_alike(one, other):
                self.assertTrue(may_replace(one, other) and may_replace(other, one))

    def test_replacing_goes_on(self):
        machines = (ROUND, STILL, ZERO, FLIP, LINE) + tuple(some_machines(1))
        may = {(one, other): may_replace(one, other) for one in machines for other in machines}
        for one, other, third in itertools.product(machines, repeat=3):
            if may[one, other] and may[other, third]:
                self.assertTrue(may[one, third])

    def test_edges(self):
        self.exactly([unmet(LINE, ZERO), unmet(ZERO, LINE)], [((0,), 3), ((0, 0, 0, 0), 0)])
        self.exactly([may_replace(ZERO, STILL), may_replace(STILL, ZERO)], [True, False])
        self.exactly(unmet((((0, 10 ** 59),),), (((0, 99),),)), ((0,), 0))
        # Both standings of one are not met; the least one counts, also where a greater one has it first.
        self.exactly(unmet((((0, 5),), ((1, 6),)), ZERO), ((0,), 0))
        self.exactly(unmet((((1, 0),), ((1, 6),)), ZERO), ((0,), 1))
        self.exactly(unmet((((0, 0), (0, 1)), ((1, 1), (1, 0))), (((0, 0), (0, 0)),)), ((0,), 1))

    def test_several_together(self):
        # Each word is met by one of the first two standings of other, neither of which is alike to the first of one.
        one = (((1, 5), (1, 5)), ((1, 0), (1, 0)))
        other = (((2, 5), (2, 6)), ((2, 6), (2, 5)), ((2, 0), (2, 0)))
        self.exactly([may_replace(one, other), are_alike(one, other), unmet(other, one)], [True, False, ((0,), 1)])
        self.exactly(unmet(one, (((1, 5), (1, 6)), ((1, 0), (1, 0)))), ((1,), 0))

    def test_refusals(self):
        for function in (are_alike, may_replace, unmet):
            self.refuses_each(function, {"one": TURN, "other": LAST}, {"one": NO_MACHINES, "other": no_fitting(2)})
            self.refuses_each(function, {"one": SLOW, "other": LAST}, {"one": NO_MACHINES, "other": no_fitting(2)})
            self.refused("other", function, ROUND, TURN)
            self.refused("other", function, TURN, ROUND)


if __name__ == "__main__":
    unittest.main()
