"""[57]: families as objects."""

import itertools
import unittest

from ledalong.families import family_of
from ledalong.familyclasses import Families
from tests.samples import (GOLD, LAST, NO_NUMBERS, NO_RULES, NO_TUPLES, OBJECTS, THUE, TURN, Case, no_below, no_fitting)
from tests.test_families import COUNT, EACH, FAR, plain_at, plain_families

ONE = ((0, 1), (1, 0))


class FamiliesTests(Case):

    def test_properties(self):
        for rule, machine in EACH[::2]:
            found, start = plain_families(rule, machine)
            one = Families(rule, machine)
            self.exactly((one.rule_now, one.machine_now), (rule, machine))
            self.exactly((one.start_now, one.period_now, len(one)), (start, len(found) - start, len(found)))

    def test_items_and_calls(self):
        for rule, machine in EACH[::3]:
            one = Families(rule=rule, machine=machine)
            for level in (*range(12), 199, 200):
                self.exactly(one[level], plain_at(rule, machine, level))
            for level in (0, 3, 200) + FAR:
                family = one[level]
                self.exactly(family, family_of(rule, machine, level))
                for letter in range(len(rule)):
                    self.exactly(one(letter, level), family[letter])
                    self.exactly(one(level=level, letter=letter), family[letter])

    def test_iterated(self):
        for rule, machine in EACH[::3]:
            found, _ = plain_families(rule, machine)
            one = Families(rule, machine)
            self.exactly(list(one), found)
            self.exactly(list(one), found)
            first, second = iter(one), iter(one)
            self.exactly([next(first), next(second)], [found[0], found[0]])
            self.exactly([list(first), list(second)], [found[1:], found[1:]])
            self.exactly([(early, late) for early in one for late in one][:9], list(itertools.product(found, found))[:9])

    def test_contains(self):
        for rule, machine in ((THUE, TURN), (GOLD, TURN), (GOLD, LAST), (THUE, LAST)):
            found, _ = plain_families(rule, machine)
            one = Families(rule, machine)
            maps = list(itertools.product(range(2), repeat=2))
            for family in itertools.product(maps, maps):
                self.assertIs(family in one, family in found)
                self.assertIs(list(family) in one, False)
                self.assertIs((list(family[0]), family[1]) in one, False)
                self.assertIs(tuple((bool(a), b) for a, b in family) in one, False)
        for rule, machine in EACH[::5]:
            one = Families(rule, machine)
            for family in plain_families(rule, machine)[0]:
                self.assertIs(family in one, True)
            for value in NO_TUPLES + ((), ((),), (None,) * len(rule), (0,) * len(rule), (OBJECTS[0],), (one,), ((0, 1),) * 9):
                self.assertIs(value in one, False)
            self.assertIs(one in one, False)

    def test_equal(self):
        one = Families(THUE, TURN)
        self.assertIs(one == Families(((0, 1), (1, 0)), (((0, 0), (1, 0)), ((1, 1), (0, 1)))), True)
        self.assertIs(one != Families(THUE, TURN), False)
        # Of the same families, but not of the same machine.
        answers = (((0, 5), (1, 0)), ((1, 1), (0, 1)))
        self.exactly(list(one), list(Families(THUE, answers)))
        for other in (Families(THUE, answers), Families(THUE, LAST), Families(GOLD, TURN), Families(GOLD, LAST), None, 0, True,
                      (), list(one), (THUE, TURN), "family", OBJECTS[0], OBJECTS[1]):
            self.assertIs(one == other, False)
            self.assertIs(other == one, False)
            self.assertIs(one != other, True)

    def test_refusals(self):
        one = Families(GOLD, COUNT)
        for value in NO_NUMBERS:
            self.refused("level", one.__getitem__, value)
            self.refused("level", one, 1, value)
            self.refused("level", one, letter=1, level=value)
        for value in no_below(2):
            self.refused("letter", one, value, 3)
            self.refused("letter", one, value, None)
        self.refuses_each(Families, {"rule": GOLD, "machine": COUNT}, {"rule": NO_RULES, "machine": no_fitting(2)})
        self.refused("machine", Families, ((0, 1), (2,), (0,)), TURN)
        self.exactly((one.rule_now, one.machine_now, list(one)), (GOLD, COUNT, plain_families(GOLD, COUNT)[0]))

    def test_rules_that_do_not_grow(self):
        turns = ((1,), (2,), (0,))
        one = Families(turns, (((0, 0), (1, 0), (1, 0)), ((1, 0), (0, 0), (1, 0))))
        self.exactly((one.start_now, one.period_now, one[10 ** 59 + 1]), (0, 3, ((1, 1), (0, 1), (1, 0))))

    def test_it_does_not_change(self):
        one = Families(GOLD, TURN)
        for name in ("rule_now", "machine_now", "start_now", "period_now"):
            before = getattr(one, name)
            with self.assertRaises(AttributeError):
                setattr(one, name, 5)
            self.exactly(getattr(one, name), before)
        with self.assertRaises(TypeError):
            one[0] = 5
        (one[5], one(0, 10 ** 59), ONE in one, list(one))
        self.exactly(list(one), plain_families(GOLD, TURN)[0])


if __name__ == "__main__":
    unittest.main()
