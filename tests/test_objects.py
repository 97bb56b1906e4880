"""[23]: rules, machines and readers as objects."""

import itertools
import unittest

from ledalong.errors import InvalidText
from ledalong.objects import Machine, Reader, Rule
from tests import plain
from tests.samples import (GOLD, LAST, MACHINES, NO_INTEGERS, NO_MACHINES, NO_NUMBERS, NO_RULES, NO_TUPLES, READERS, RULES,
                           SLOW, THUE, TURN, Case, no_below, no_words, words_over)


class Objects(Case):

    def twice_at_once(self, one, parts):
        """Iterated over by two loops, one within the other."""
        self.exactly([(a, b) for a in one for b in one], list(itertools.product(parts, repeat=2)))
        self.exactly(list(one), list(parts))
        self.exactly(tuple(one), tuple(parts))

    def unlike(self, one, others):
        for other in others:
            with self.subTest(other=repr(other)):
                self.assertIs(one == other, False)
                self.assertIs(other == one, False)
                self.assertIs(one != other, True)

    def contains_none(self, one, values):
        for value in values:
            with self.subTest(value=repr(value)):
                self.assertIs(value in one, False)

    def no_text(self, read):
        for value in (None, 0, True, (), [], ("rule 0",), b"rule 0"):
            self.refused("text", read, value)

    def cannot(self, read, text, field):
        with self.assertRaises(InvalidText) as caught:
            read(text)
        self.exactly((caught.exception.line, caught.exception.field), (0, field))

    def test_rules(self):
        for rule in RULES:
            one = Rule(rule)
            self.exactly(one.rule_now, rule)
            self.exactly(one.even_now, len({len(block) for block in rule}) == 1)
            self.exactly([one[a] for a in range(len(rule))], list(rule))
            self.exactly(len(one), len(rule))
            self.exactly(str(one), "rule " + " ".join(",".join(str(a) for a in block) for block in rule))
            self.twice_at_once(one, rule)
            for word in words_over(len(rule), 3):
                self.exactly(one(word), plain.spread(rule, word))
                self.exactly(one(word=word), plain.spread(rule, word))
                self.assertIs(word in one, True)
            for n in (1, 2, 3):
                far = one ** n
                self.assertIs(far.__class__, Rule)
                self.exactly(far.rule_now, tuple(plain.block(rule, a, n) for a in range(len(rule))))
            self.assertIs((~one).__class__, Rule)
            self.exactly((~one).rule_now, tuple(block[::-1] for block in rule))
            self.assertIs(~~one == one, True)
            self.exactly(one.rule_now, rule)

    def test_rules_equal(self):
        self.assertIs(Rule(THUE) == Rule(((0, 1), (1, 0))), True)
        self.assertIs(Rule(THUE) != Rule(((0, 1), (1, 0))), False)
        self.assertIs(Rule(blocks=THUE) == Rule(THUE), True)
        self.unlike(Rule(THUE), (Rule(GOLD), THUE, None, 0, True, "rule 0,1 1,0", [THUE], Machine(TURN), Reader(*READERS[0])))

    def test_rules_refuse(self):
        one = Rule(GOLD)
        for value in no_below(2):
            self.refused("letter", one.__getitem__, value)
        for value in no_words(2):
            self.refused("word", one, value)
        for value in NO_INTEGERS + (0, -1, -10 ** 59):
            self.refused("n", lambda: one ** value)
        self.contains_none(one, no_words(2))
        self.judged("shape", -1, Rule, ())
        self.judged("shape", -1, Rule, one)
        self.judged("block", 1, Rule, ((0, 1), ()))
        self.judged("letter", (1, 0), Rule, ((0, 1), (True,)))
        for value in NO_RULES:
            with self.assertRaises(ValueError):
                Rule(value)
        self.exactly(one.rule_now, GOLD)

    def test_rules_read(self):
        one = Rule.read("rule 0,1 0")
        self.assertIs(one.__class__, Rule)
        self.exactly(one.rule_now, GOLD)
        self.assertIs(Rule.read(text=str(one)) == one, True)
        self.no_text(Rule.read)
        self.cannot(Rule.read, "rule 0,2 0", 1)
        self.cannot(Rule.read, "machine 0:0", 0)

    def test_machines(self):
        for machine in MACHINES:
            one = Machine(machine)
            self.exactly(one.machine_now, machine)
            self.exactly(one.letters_now, len(machine[0]))
            self.exactly([one[q] for q in range(len(machine))], list(machine))
            self.exactly(len(one), len(machine))
            self.exactly(str(one), "machine " + " ".join(",".join(f"{s}:{b}" for s, b in part) for part in machine))
            self.twice_at_once(one, machine)
            answers = {answer for part in machine for _, answer in part}
            for value in [*range(101), *answers]:
                self.assertIs(value in one, value in answers)
            for q in range(len(machine)):
                for word in words_over(len(machine[0]), 3):
                    self.exactly(one(q, word), plain.run(machine, q, word))
                    self.exactly(one(word=word, standing=q), plain.run(machine, q, word))
            self.exactly(one.machine_now, machine)

    def test_machines_added(self):
        both = Machine(TURN) + Machine(SLOW)
        self.assertIs(both.__class__, Machine)
        self.exactly(len(both), 6)
        for q, s in itertools.product(range(2), range(3)):
            for word in words_over(2, 4):
                goal, answers = plain.run(TURN, q, word)
                late, told = plain.run(SLOW, s, answers)
                self.exactly(both(q * 3 + s, word), (goal * 3 + late, told))
        one = Machine(TURN)
        for value in (None, 0, True, "", TURN, LAST, [], Rule(THUE), Reader(*READERS[0]), Machine((((0, 0),),))):
            self.refused("other", lambda: one + value)
        self.refused("other", lambda: Machine((((0, 2),),)) + one)
        self.exactly(one.machine_now, TURN)

    def test_machines_equal(self):
        self.assertIs(Machine(TURN) == Machine((((0, 0), (1, 0)), ((1, 1), (0, 1)))), True)
        self.assertIs(Machine(standings=TURN) != Machine(TURN), False)
        self.unlike(Machine(TURN), (Machine(LAST), TURN, None, 1, "machine", [TURN], Rule(THUE), Reader(*READERS[0])))

    def test_machines_refuse(self):
        one = Machine(TURN)
        for value in no_below(2):
            self.refused("standing", one.__getitem__, value)
            self.refused("standing", one, value, (0, 1))
            self.refused("standing", one, value, None)
        for value in no_words(2):
            self.refused("word", one, 1, value)
        self.contains_none(one, NO_NUMBERS + (2, 3, 10 ** 59))
        self.judged("shape", -1, Machine, ())
        self.judged("shape", -1, Machine, one)
        self.judged("pair", (0, 1), Machine, (((0, 0), (0,)),))
        self.judged("answer", (0, 0), Machine, (((0, True),),))
        for value in NO_MACHINES:
            with self.assertRaises(ValueError):
                Machine(value)

    def test_machines_read(self):
        one = Machine.read("machine 0:0,1:0 0:1,1:1")
        self.assertIs(one.__class__, Machine)
        self.exactly(one.machine_now, LAST)
        self.assertIs(Machine.read(text=str(one)) == one, True)
        self.no_text(Machine.read)
        self.cannot(Machine.read, "machine 0:0,1:0 0:1,2:1", 2)
        self.cannot(Machine.read, "rule 0", 0)

    def test_readers(self):
        for reader in READERS:
            base, moves, shows = reader
            one = Reader(base, moves, shows)
            self.exactly(one.reader_now, reader)
            self.exactly(one.base_now, base)
            self.exactly([one[k] for k in range(len(moves))], list(zip(moves, shows)))
            self.exactly(len(one), len(moves))
            parts = " ".join(",".join(str(goal) for goal in place) + f":{show}" for place, show in zip(moves, shows))
            self.exactly(str(one), f"reader {base} {parts}")
            self.twice_at_once(one, list(zip(moves, shows)))
            for value in [*range(101), *shows]:
                self.assertIs(value in one, value in shows)
            places = {0: 0}
            for number in range(200):
                if number > 0:
                    places[number] = moves[places[number // base]][number % base]
                self.exactly(one(number), shows[places[number]])
                self.exactly(one(number=number), shows[places[number]])
            self.exactly(one.reader_now, reader)
        far = 10 ** 59 + 10 ** 20 + 7
        self.exactly(Reader(2, ((0, 1), (1, 0)), (0, 1))(far), bin(far).count("1") % 2)

    def test_readers_equal(self):
        one = Reader(2, ((0, 1), (1, 0)), (0, 1))
        self.assertIs(one == Reader(shows=(0, 1), base=2, moves=((0, 1), (1, 0))), True)
        self.assertIs(one != Reader(2, ((0, 1), (1, 0)), (0, 1)), False)
        others = (Reader(2, ((0, 1), (1, 0)), (0, 2)), Reader(2, ((0, 1), (1, 1)), (0, 1)), Reader(3, ((0, 0, 0),), (0,)))
        self.unlike(one, others + (READERS[0], None, 0, "reader", [], Rule(THUE), Machine(TURN)))

    def test_readers_refuse(self):
        one = Reader(2, ((0, 1), (1, 0)), (5, 6))
        for value in no_below(2):
            self.refused("place", one.__getitem__, value)
        for value in NO_NUMBERS:
            self.refused("number", one, value)
        self.contains_none(one, NO_NUMBERS + (0, 1, 2, 10 ** 59))
        self.contains_none(Reader(2, ((0, 1), (1, 0)), (0, 1)), NO_NUMBERS)
        self.judged("base", -1, Reader, 1, ((0,),), (0,))
        self.judged("base", -1, Reader, True, (), None)
        self.judged("moves", -1, Reader, 2, (), ())
        self.judged("place", 1, Reader, 2, ((0, 1), (1,)), (0, 1))
        self.judged("move", (1, 0), Reader, 2, ((0, 1), (2, 1)), (0, 1))
        self.judged("begin", -1, Reader, 2, ((1, 1), (1, 1)), (0, 1))
        self.judged("shows", -1, Reader, 2, ((0, 1), (1, 1)), [0, 1])
        self.judged("show", 1, Reader, 2, ((0, 1), (1, 1)), (0, None))
        for value in NO_TUPLES:
            self.judged("moves", -1, Reader, 2, value, (0, 1))
            self.judged("shows", -1, Reader, 2, ((0, 1), (1, 0)), value)

    def test_readers_read(self):
        one = Reader.read("reader 2 0,1:0 1,0:1")
        self.assertIs(one.__class__, Reader)
        self.exactly(one.reader_now, READERS[0])
        self.assertIs(Reader.read(text=str(one)) == one, True)
        self.no_text(Reader.read)
        self.cannot(Reader.read, "reader 1 0:0", 1)
        self.cannot(Reader.read, "reader 2", 2)

    def test_they_do_not_change(self):
        for one, names in ((Rule(THUE), ("rule_now", "even_now")), (Machine(TURN), ("machine_now", "letters_now")),
                           (Reader(*READERS[0]), ("reader_now", "base_now"))):
            for name in names:
                before = getattr(one, name)
                with self.assertRaises(AttributeError):
                    setattr(one, name, 5)
                self.exactly(getattr(one, name), before)
            with self.assertRaises(TypeError):
                one[0] = 5


if __name__ == "__main__":
    unittest.main()
