"""[14]: what a value is."""

import unittest

from ledalong import judges, kinds
from ledalong.errors import InvalidPaper
from tests.samples import (GOLD, MACHINES, NO_INTEGERS, NO_MACHINES, NO_NUMBERS, NO_READERS, NO_RULES, READERS, RULES, THUE,
                           TURN, Case, no_below, no_words)


class Kinds(Case):

    def none_of(self, function, values, *ahead):
        for value in values:
            with self.subTest(function=function.__name__, value=repr(value)):
                self.assertIs(function(*ahead, value), False)

    def all_of(self, function, values, *ahead):
        for value in values:
            with self.subTest(function=function.__name__, value=repr(value)):
                self.assertIs(function(*ahead, value), True)

    def test_integers_and_numbers(self):
        self.all_of(kinds.is_integer, (0, 1, -1, 10 ** 59, -10 ** 59))
        self.none_of(kinds.is_integer, NO_INTEGERS)
        self.all_of(kinds.is_number, (0, 1, 2, 10 ** 60))
        self.none_of(kinds.is_number, NO_NUMBERS)

    def test_words(self):
        self.all_of(kinds.is_word, ((), (0,), (1,), (0, 1, 1, 0) * 10), THUE)
        self.none_of(kinds.is_word, no_words(2), THUE)
        self.all_of(kinds.is_word, ((), (0,), (0, 0)), ((0,),))
        self.none_of(kinds.is_word, no_words(1), ((0,),))
        for rule in NO_RULES:
            self.none_of(kinds.is_word, ((), (0,)), rule)

    def test_rules(self):
        self.all_of(kinds.is_rule, RULES)
        self.none_of(kinds.is_rule, NO_RULES)

    def test_machines_and_standings(self):
        self.all_of(kinds.is_machine, MACHINES)
        self.none_of(kinds.is_machine, NO_MACHINES)
        for machine in MACHINES:
            self.all_of(kinds.is_standing, range(len(machine)), machine)
            self.none_of(kinds.is_standing, no_below(len(machine)), machine)
        for machine in NO_MACHINES:
            self.none_of(kinds.is_standing, (0, 1), machine)

    def test_readers(self):
        self.all_of(kinds.is_reader, READERS)
        self.none_of(kinds.is_reader, NO_READERS)

    def test_one_is_no_true(self):
        self.assertIs(kinds.is_rule(((0, True), (1, 0))), False)
        self.assertIs(kinds.is_word(GOLD, (True,)), False)
        self.assertIs(kinds.is_standing(TURN, True), False)
        self.assertIs(kinds.is_standing(TURN, False), False)

    def test_deep_and_long_values(self):
        deep = ()
        for _ in range(30):
            deep = (deep, [deep])[:1]
        for function in (kinds.is_rule, kinds.is_machine, kinds.is_reader, kinds.is_number):
            self.none_of(function, (deep, tuple([deep] * 10000), "x" * 6000, (0,) * 10000))
        self.assertIs(kinds.is_rule(((0,) * 10000,)), True)

    def test_kinds_and_judges_agree(self):
        for name in ("rule", "machine", "reader"):
            for value in RULES + MACHINES + READERS + NO_RULES + NO_MACHINES + NO_READERS:
                try:
                    getattr(judges, "lets_" + name)(value)
                    right = True
                except InvalidPaper:
                    right = False
                self.assertIs(getattr(kinds, "is_" + name)(value), right)


if __name__ == "__main__":
    unittest.main()
