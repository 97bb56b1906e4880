"""[61], [62]: what a word of a rule tells of the standing behind it, and of the waking."""

import unittest

from ledalong.forgetting import delay_of, forgets, memory_of, sets_behind
from ledalong.wakings import behind, carried_on, classes_by, settles, standing_told
from ledalong.worlds import words_of
from tests import plain
from tests.samples import GOLD, NO_GROWING, THUE, TURN, Case, no_fitting, no_words
from tests.test_forgetting import HOLD, PAIRS, TRIO, plain_memory, rows_of
from tests.test_worlds import no_words_of

FUNCTIONS = (settles, behind, classes_by, standing_told)


def some_words(rule, longest):
    """Words with up to so many letters, not too many of each length."""
    return [word for row in rows_of(rule)[:longest + 1] for word in row[::max(1, len(row) // 7)]]


def classes(machine, word):
    """The sets of the wakings that are led to one standing."""
    found = {}
    for q in range(len(machine)):
        found.setdefault(plain.run(machine, q, word)[0], []).append(q)
    return tuple(sorted(tuple(lot) for lot in found.values()))


class Wakings(Case):

    def test_each_word(self):
        for rule, machine in PAIRS:
            for word in some_words(rule, 8):
                goals = sorted(set(plain.goals(machine, word)))
                self.assertIs(settles(rule, machine, word), len(goals) == plain_memory(rule, machine))
                self.exactly(behind(rule, machine, word), tuple(goals))
                self.exactly(classes_by(rule, machine, word), classes(machine, word))
                self.exactly(standing_told(rule, machine, word), goals[0] if len(goals) == 1 else None)

    def test_carried_on(self):
        for rule, machine in PAIRS[::2]:
            for whole in some_words(rule, 7):
                for at in range(len(whole) + 1):
                    word, more = whole[:at], whole[at:]
                    goals = sorted(set(plain.goals(machine, word)))
                    expected = tuple((s, plain.run(machine, s, more)[0]) for s in goals)
                    self.exactly(carried_on(rule, machine, word, more), expected)
                    self.exactly(tuple(sorted({t for _, t in expected})), behind(rule, machine, whole))

    def test_one_to_one_behind_a_word_that_settles(self):
        for rule, machine in PAIRS[::2]:
            for whole in words_of(rule, 12)[::9]:
                for at in range(13):
                    word, more = whole[:at], whole[at:]
                    if not settles(rule, machine, word):
                        continue
                    pairs = carried_on(rule, machine, word, more)
                    self.assertEqual(sorted(t for _, t in pairs), list(behind(rule, machine, whole)))
                    self.assertEqual(len({t for _, t in pairs}), len(pairs))
                    self.exactly(classes_by(rule, machine, whole), classes_by(rule, machine, word))

    def test_words_within_words(self):
        for rule, machine in PAIRS[::3]:
            for word in words_of(rule, 10)[::5]:
                for at in range(11):
                    for late in range(at, 11):
                        if settles(rule, machine, word[at:late]):
                            self.assertTrue(settles(rule, machine, word))
                    # The last letters tell as much as the whole word, if they settle.
                    if settles(rule, machine, word[at:]):
                        self.exactly(behind(rule, machine, word[at:]), behind(rule, machine, word))

    def test_words_as_long_as_the_delay(self):
        for rule, machine in PAIRS[::2]:
            delay = delay_of(rule, machine)
            for length in (delay, delay + 1, delay + 5):
                for word in words_of(rule, length):
                    self.assertIs(settles(rule, machine, word), True)
                    self.assertEqual(standing_told(rule, machine, word) is not None, forgets(rule, machine))
            told = {behind(rule, machine, word) for word in words_of(rule, delay)}
            self.exactly(sets_behind(rule, machine), tuple(sorted(told)))

    def test_edges(self):
        one = (((0, 3), (0, 4)),)
        for rule in (THUE, GOLD):
            self.exactly([settles(rule, one, ()), behind(rule, one, ()), classes_by(rule, one, ()), standing_told(rule, one, ()),
                          carried_on(rule, one, (), ())], [True, (0,), ((0,),), 0, ((0, 0),)])
        for rule, machine in PAIRS[::5]:
            many = len(machine)
            self.exactly(behind(rule, machine, ()), tuple(range(many)))
            self.exactly(classes_by(rule, machine, ()), tuple((q,) for q in range(many)))
            self.assertIs(settles(rule, machine, ()), memory_of(rule, machine) == many)
            for word in some_words(rule, 3):
                self.exactly(carried_on(rule, machine, word, ()), tuple((s, s) for s in behind(rule, machine, word)))
                self.exactly(carried_on(rule, machine, (), word), tuple((q, plain.run(machine, q, word)[0]) for q in range(many)))
        # The sets are ascending by their first standings, not by where they are led.
        swap = (((1, 0), (1, 0)), ((0, 0), (0, 0)), ((1, 0), (0, 0)))
        self.exactly([classes_by(THUE, swap, (0,)), classes_by(THUE, swap, (1,))], [((0, 2), (1,)), ((0,), (1, 2))])

    def test_long_words(self):
        for rule, machine in PAIRS[::6]:
            for word in words_of(rule, 40)[::40]:
                self.exactly(behind(rule, machine, word), tuple(sorted(set(plain.goals(machine, word)))))
                self.assertIs(settles(rule, machine, word), True)
                self.exactly(carried_on(rule, machine, word[:9], word[9:]),
                             tuple((s, plain.run(machine, s, word[9:])[0]) for s in behind(rule, machine, word[:9])))

    def test_refusals(self):
        for rule, machine in ((THUE, HOLD), (GOLD, TRIO)):
            words = no_words_of(rule)
            wrong = {"rule": NO_GROWING, "machine": no_fitting(2), "word": words, "more": no_words(2)}
            for function in FUNCTIONS:
                self.refuses_each(function, {"rule": rule, "machine": machine, "word": (0, 1)}, wrong)
            self.refuses_each(carried_on, {"rule": rule, "machine": machine, "word": (0, 1), "more": (0,)}, wrong)

    def test_more_that_makes_no_word(self):
        self.refused("more", carried_on, GOLD, TURN, (0, 1), (1,))
        self.refused("more", carried_on, GOLD, TURN, (), (1, 1))
        self.refused("more", carried_on, THUE, TURN, (0, 0), (0,))
        self.refused("more", carried_on, THUE, TURN, (0, 1), (0, 1, 0))
        self.refused("word", carried_on, GOLD, TURN, (1, 1), (1,))
        for rule in (THUE, GOLD):
            for word in some_words(rule, 3):
                for more in some_words(rule, 3):
                    if word + more not in rows_of(rule)[len(word + more)]:
                        self.refused("more", carried_on, rule, TURN, word, more)


if __name__ == "__main__":
    unittest.main()
