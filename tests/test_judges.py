"""[15]: rules, machines and readers judged."""

import unittest

from ledalong.judges import lets_machine, lets_reader, lets_rule
from tests.samples import MACHINES, NO_INTEGERS, NO_NUMBERS, NO_TUPLES, READERS, RULES, Case, no_below


class Judges(Case):

    def test_rules(self):
        for rule in RULES:
            even = min(len(block) for block in rule) == max(len(block) for block in rule)
            self.exactly(lets_rule(rule), (len(rule), even))
        self.exactly(lets_rule(((0,),)), (1, True))
        self.exactly(lets_rule(((0,), (0, 1))), (2, False))

    def test_no_rules(self):
        for thing in NO_TUPLES + ((),):
            self.judged("shape", -1, lets_rule, thing)
        for block in NO_TUPLES + ((),):
            self.judged("block", 0, lets_rule, (block,))
            self.judged("block", 1, lets_rule, ((0, 1), block, (9,)))
        for letter in no_below(2):
            self.judged("letter", (0, 0), lets_rule, ((letter,), ()))
            self.judged("letter", (1, 2), lets_rule, ((0, 1), (0, 1, letter, 9)))

    def test_order_of_rules(self):
        self.judged("letter", (0, 1), lets_rule, ((0, 2), ()))
        self.judged("block", 0, lets_rule, ((), (0, 2)))
        self.judged("letter", (1, 0), lets_rule, ((0, 2), (3, 0), ()))
        self.judged("letter", (0, 0), lets_rule, ((2, 3), (9,)))

    def test_machines(self):
        for machine in MACHINES:
            self.exactly(lets_machine(machine), (len(machine), len(machine[0])))

    def test_no_machines(self):
        for thing in NO_TUPLES + ((),):
            self.judged("shape", -1, lets_machine, thing)
        right = ((0, 0), (1, 9))
        for standing in NO_TUPLES + ((), ((0, 0),), ((0, 0), (0, 0), (0, 0))):
            self.judged("standing", 1, lets_machine, (right, standing))
        for standing in NO_TUPLES + ((),):
            self.judged("standing", 0, lets_machine, (standing, right))
        for pair in NO_TUPLES + ((), (0,), (0, 0, 0)):
            self.judged("pair", (0, 0), lets_machine, ((pair, (0, 0)), right))
            self.judged("pair", (1, 1), lets_machine, (right, ((0, 0), pair)))
        for goal in no_below(2):
            self.judged("next", (1, 1), lets_machine, (right, ((0, 0), (goal, -1))))
        for answer in NO_NUMBERS:
            self.judged("answer", (0, 1), lets_machine, (((1, 3), (1, answer)), right))

    def test_order_of_machines(self):
        self.judged("answer", (0, 0), lets_machine, (((0, -1), (0,)), ((0, 0),)))
        self.judged("pair", (0, 1), lets_machine, (((0, 0), (0,)), ((2, 0),)))
        self.judged("standing", 1, lets_machine, (((0, 0), (0, 0)), ((5, -1),)))
        self.judged("next", (0, 0), lets_machine, (((3, 0), (0, -1)), ((0, 0), (0, 0))))

    def test_readers(self):
        for reader in READERS:
            self.exactly(lets_reader(reader), (reader[0], len(reader[1])))

    def test_no_readers(self):
        for thing in NO_TUPLES + ((), (2, ((0, 0),)), (2, ((0, 0),), (0,), 0), (9, 9)):
            self.judged("shape", -1, lets_reader, thing)
        for base in NO_INTEGERS + (1, 0, -1, -2):
            self.judged("base", -1, lets_reader, (base, (), None))
        for moves in NO_TUPLES + ((),):
            self.judged("moves", -1, lets_reader, (2, moves, None))
        for place in NO_TUPLES + ((), (0,), (0, 0, 0)):
            self.judged("place", 0, lets_reader, (2, (place, (9, 9)), None))
            self.judged("place", 1, lets_reader, (2, ((1, 0), place), None))
        for goal in no_below(2):
            self.judged("move", (0, 1), lets_reader, (2, ((1, goal), ()), None))
            self.judged("move", (1, 0), lets_reader, (2, ((1, 0), (goal, 9)), None))
        self.judged("begin", -1, lets_reader, (2, ((1, 0), (0, 1)), None))
        for shows in NO_TUPLES + ((), (0,), (0, 0, 0)):
            self.judged("shows", -1, lets_reader, (2, ((0, 1), (0, 1)), shows))
        for show in NO_NUMBERS:
            self.judged("show", 0, lets_reader, (2, ((0, 1), (0, 1)), (show, -1)))
            self.judged("show", 1, lets_reader, (2, ((0, 1), (0, 1)), (4, show)))

    def test_order_of_readers(self):
        self.judged("move", (0, 0), lets_reader, (2, ((5, 0), (0,)), ()))
        self.judged("place", 2, lets_reader, (2, ((0, 0), (1, 2), 5), ()))
        self.judged("place", 1, lets_reader, (2, ((1, 0), (0,)), ()))
        self.judged("place", 0, lets_reader, (10 ** 59, ((0, 0),), (0,)))


if __name__ == "__main__":
    unittest.main()
