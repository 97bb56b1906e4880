"""[65]: what is forgotten, as objects."""

import itertools
import unittest

from ledalong.forgetclasses import Forgetting
from ledalong.forgetting import delay_of, memory_of, sets_behind
from ledalong.wakings import behind, carried_on, classes_by, standing_told
from tests import plain
from tests.samples import (GOLD, LAST, NO_GROWING, NO_TUPLES, OBJECTS, THUE, TURN, Case, no_below, no_fitting, no_words, words_over)
from tests.test_forgetting import HOLD, PAIRS, TRIO, plain_memory, rows_of
from tests.test_wakings import classes, some_words
from tests.test_worlds import no_words_of


class Forgettings(Case):

    def test_properties(self):
        for rule, machine in PAIRS[::2]:
            one = Forgetting(rule, machine)
            self.exactly((one.rule_now, one.machine_now), (rule, machine))
            self.exactly((one.memory_now, one.delay_now, one.sets_now),
                         (memory_of(rule, machine), delay_of(rule, machine), sets_behind(rule, machine)))
            self.exactly((len(one), one.memory_now), (plain_memory(rule, machine), plain_memory(rule, machine)))
            self.exactly(str(one), f"{plain_memory(rule, machine)} of {len(machine)} behind {delay_of(rule, machine)}")

    def test_calls_and_methods(self):
        for rule, machine in PAIRS[::4]:
            one = Forgetting(rule=rule, machine=machine)
            for word in some_words(rule, 5):
                goals = tuple(sorted(set(plain.goals(machine, word))))
                self.exactly(one(word), goals)
                self.exactly(one(word=word), behind(rule, machine, word))
                self.exactly(one.classes(word), classes(machine, word))
                self.exactly(one.classes(word=word), classes_by(rule, machine, word))
                self.exactly(one.told(word), goals[0] if len(goals) == 1 else None)
                self.exactly(one.told(word=word), standing_told(rule, machine, word))
                for at in range(len(word) + 1):
                    expected = carried_on(rule, machine, word[:at], word[at:])
                    self.exactly(one.carried(word[:at], word[at:]), expected)
                    self.exactly(one.carried(more=word[at:], word=word[:at]), expected)

    def test_meets(self):
        for rule, machine in PAIRS[::4]:
            one = Forgetting(rule, machine)
            for word in some_words(rule, 5):
                for waking, other in itertools.product(range(len(machine)), repeat=2):
                    met = plain.run(machine, waking, word)[0] == plain.run(machine, other, word)[0]
                    self.assertIs(one.meets(waking, other, word), met)
                    self.assertIs(one.meets(word=word, other=other, waking=waking), met)

    def test_contains(self):
        for rule, machine in PAIRS[::4]:
            one = Forgetting(rule, machine)
            for word in words_over(len(rule), 3):
                expected = word in rows_of(rule)[len(word)] and len(set(plain.goals(machine, word))) == one.memory_now
                self.assertIs(word in one, expected)
            for value in no_words(len(rule)) + (one, OBJECTS[1]):
                self.assertIs(value in one, False)
            self.assertIs(list(rows_of(rule)[4][0]) in one, False)
        settled = Forgetting(THUE, TURN)
        for value in no_words_of(THUE):
            self.assertIs(value in settled, False)
        for row in rows_of(THUE):
            for word in row:
                self.assertIs(word in settled, True)
        self.assertIs((False, 1) in settled, False)

    def test_iterated(self):
        for rule, machine in PAIRS[::4]:
            one = Forgetting(rule, machine)
            sets = sets_behind(rule, machine)
            self.exactly([list(one), tuple(one), list(one)], [list(sets), sets, list(sets)])
            first, second = iter(one), iter(one)
            self.exactly([next(first), next(second)], [sets[0], sets[0]])
            self.exactly([list(first), list(second)], [list(sets[1:]), list(sets[1:])])
            self.exactly([(early, late) for early in one for late in one], list(itertools.product(sets, sets)))

    def test_equal(self):
        one = Forgetting(THUE, TRIO)
        self.assertIs(one == Forgetting(((0, 1), (1, 0)), tuple(TRIO)), True)
        self.assertIs(one != Forgetting(THUE, TRIO), False)
        answers = tuple(tuple((goal, 9) for goal, _ in part) for part in TRIO)
        for other in (Forgetting(THUE, answers), Forgetting(GOLD, TRIO), Forgetting(THUE, HOLD), Forgetting(GOLD, LAST), None, 0,
                      True, (), "2 of 3 behind 1", [(0, 1)], (THUE, TRIO), OBJECTS[0], OBJECTS[1]):
            self.assertIs(one == other, False)
            self.assertIs(other == one, False)
            self.assertIs(one != other, True)

    def test_strings(self):
        one = (((0, 3), (0, 4)),)
        told = [str(Forgetting(rule, machine)) for rule, machine in
                ((THUE, TURN), (THUE, LAST), (THUE, HOLD), (GOLD, HOLD), (THUE, TRIO), (GOLD, one))]
        self.exactly(told, ["2 of 2 behind 0", "1 of 2 behind 1", "1 of 2 behind 3", "1 of 2 behind 2", "2 of 3 behind 1",
                            "1 of 1 behind 0"])

    def test_made_refused(self):
        wrong = {"rule": NO_GROWING, "machine": no_fitting(2)}
        for rule in (THUE, GOLD):
            self.refuses_each(Forgetting, {"rule": rule, "machine": HOLD}, wrong)

    def test_methods_refused(self):
        for rule, machine in ((THUE, HOLD), (GOLD, HOLD)):
            one = Forgetting(rule, machine)
            for word in no_words_of(rule):
                for function in (one, one.classes, one.told):
                    self.refused("word", function, word)
                self.refused("word", one.carried, word, (0,))
                self.refused("word", one.carried, word, None)
                self.refused("word", one.meets, 0, 1, word)
            for more in no_words(2):
                self.refused("more", one.carried, (0, 1), more)
            for value in no_below(2):
                self.refused("waking", one.meets, value, 1, (0,))
                self.refused("waking", one.meets, value, None, None)
                self.refused("other", one.meets, 1, value, (0,))
                self.refused("other", one.meets, 1, value, None)
            self.exactly((one.rule_now, one.machine_now), (rule, machine))
        self.refused("more", Forgetting(GOLD, HOLD).carried, (0, 1), (1,))
        self.refused("waking", Forgetting(GOLD, TRIO).meets, 3, 3, (1, 1))

    def test_it_does_not_change(self):
        one = Forgetting(THUE, TRIO)
        for name in ("rule_now", "machine_now", "memory_now", "delay_now", "sets_now"):
            before = getattr(one, name)
            with self.assertRaises(AttributeError):
                setattr(one, name, 5)
            self.exactly(getattr(one, name), before)
        (one((0,)), one.classes((0,)), one.told(()), one.carried((0,), (1,)), one.meets(0, 1, (0,)), (0,) in one, list(one))
        self.exactly([str(one), list(one), one((0,))], ["2 of 3 behind 1", [(0, 1)], (0, 1)])
        for value in NO_TUPLES:
            self.assertIs(value in one, False)


if __name__ == "__main__":
    unittest.main()
