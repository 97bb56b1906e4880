"""[40], [41], [42]: parents."""

import unittest

from ledalong.parents import grandparents, is_parent, one_parent, parents_of, seams_of, seams_told, told_from
from ledalong.worlds import words_of
from tests import plain
from tests.samples import (GOLD, GROWING, NO_GROWING, NO_INTEGERS, NO_NUMBERS, ROUND, THUE, Case, no_words, words_over)
from tests.test_worlds import LONGEST, world


def plain_seams(rule, parent, length):
    """The indexes, below length, at which a block of the parent begins."""
    above, skip, _ = parent
    begins = [len(plain.spread(rule, above[:k])) - skip for k in range(len(above))]
    return tuple(at for at in begins if 0 <= at < length)


class Parents(Case):

    def test_parents_of_words_of_the_rule(self):
        for rule in GROWING:
            for word in sorted(world(rule))[1::3]:
                expected = plain.parents(rule, world(rule), word)
                self.exactly(parents_of(rule, word), tuple(sorted(expected)))
                self.assertTrue(expected)
                seams = {plain_seams(rule, parent, len(word)) for parent in expected}
                self.exactly(seams_of(rule, word), tuple(sorted(seams)))

    def test_parents_of_all_short_words(self):
        for rule in GROWING:
            for word in words_over(len(rule), 4)[1:]:
                found = parents_of(rule, word)
                self.exactly(found, tuple(sorted(plain.parents(rule, world(rule), word))))
                self.exactly(found != (), word in world(rule))
                if word not in world(rule):
                    self.exactly(seams_of(rule, word), ())

    def test_long_words(self):
        for rule in GROWING:
            words = words_of(rule, 24)
            for word in words[::7]:
                below = plain.spread(rule, word)[:40]
                found = parents_of(rule, below)
                self.assertTrue(found)
                for above, skip, rest in found:
                    far = plain.spread(rule, above)
                    self.exactly(far[skip:len(far) - rest], below)
                    self.assertTrue(skip < len(rule[above[0]]) and rest < len(rule[above[-1]]))
                self.assertIn((word, 0, 0), parents_of(rule, plain.spread(rule, word)))

    def test_a_long_word_with_blocks_that_are_the_same(self):
        rule = ((3, 2, 0), (3, 2, 0), (2, 1, 2), (3, 2, 1))
        word = plain.block(rule, 0, 6)[:300]
        expected = set()
        for above in words_of(rule, 102):
            far = plain.spread(rule, above)
            for skip in range(3):
                if far[skip:skip + 300] == word:
                    many = -((-300 - skip) // 3)
                    expected.add((above[:many], skip, 3 * many - skip - 300))
        self.assertTrue(expected)
        self.exactly(parents_of(rule, word), tuple(sorted(expected)))

    def test_is_parent(self):
        for rule in GROWING[:14]:
            for word in sorted(world(rule))[1:200:17]:
                expected = plain.parents(rule, world(rule), word)
                for parent in expected:
                    self.assertIs(is_parent(rule, word, parent), True)
                for above in words_over(len(rule), 3):
                    for skip in range(4):
                        for rest in range(4):
                            thing = (above, skip, rest)
                            self.assertIs(is_parent(rule, word, thing), thing in expected)

    def test_is_parent_of_any_value(self):
        right = ((1, 1), 1, 1)
        self.assertIs(is_parent(THUE, (0, 1), right), True)
        for thing in NO_NUMBERS + (0, right[:2], right + (0,), list(right), ([1, 1], 1, 1), ("11", 1, 1), ((), 0, 0), ((), 1, 1)):
            self.assertIs(is_parent(THUE, (0, 1), thing), False)
        for value in NO_NUMBERS + (0, 2, 10 ** 59):
            self.assertIs(is_parent(THUE, (0, 1), ((1, 1), value, 1)), False)
            self.assertIs(is_parent(THUE, (0, 1), ((1, 1), 1, value)), False)
        for value in no_words(2) + ((0,), (1,), (0, 1), (1, 1, 1), (1, True), (True, 1)):
            self.assertIs(is_parent(THUE, (0, 1), (value, 1, 1)), False)
        self.assertIs(is_parent(THUE, (0, 1), ((0,), False, 0)), False)
        # What is no word of the rule is no parent; nor is one of which a whole block is left out.
        self.assertIs(is_parent(THUE, (0, 1, 0, 1, 0, 1), ((0, 0, 0), 0, 0)), False)
        self.assertIs(is_parent(THUE, (0, 1), ((0, 0), 2, 0)), False)
        self.assertIs(is_parent(THUE, (0, 1), ((0, 1), 0, 2)), False)
        self.assertIs(is_parent(GOLD, (0,), ((0, 1), 2, 0)), False)

    def test_grandparents(self):
        for rule in GROWING:
            for word in sorted(world(rule))[1:200:9]:
                self.exactly(grandparents(rule, word, 0), ((word, 0, 0),))
                self.exactly(grandparents(rule, word, 1), parents_of(rule, word))
                for n in (2, 3):
                    blocks = tuple(plain.block(rule, a, n) for a in range(len(rule)))
                    expected = plain.parents(blocks, world(rule), word)
                    if len(expected) <= 300:
                        self.exactly(grandparents(rule, word, n), tuple(sorted(expected)))
        for n in (0, 1, 2, 200):
            self.exactly(grandparents(THUE, (0, 0, 0), n), ())
            self.exactly(grandparents(GOLD, (1, 1), n), ())

    def test_one_parent_and_seams_told(self):
        for rule in GROWING:
            for length in range(1, LONGEST):
                words = [word for word in world(rule) if len(word) == length]
                parents = {word: plain.parents(rule, world(rule), word) for word in words}
                seams = [{plain_seams(rule, parent, length) for parent in parents[word]} for word in words]
                self.exactly(one_parent(rule, length), all(len(parents[word]) == 1 for word in words))
                self.exactly(seams_told(rule, length), all(len(found) == 1 for found in seams))

    def test_told_from(self):
        for rule in GROWING:
            told = [length for length in range(1, 13) if seams_told(rule, length)]
            for most in (1, 2, 5, 12):
                self.exactly(told_from(rule, most), told[0] if told and told[0] <= most else None)
            if told:
                self.exactly(told, list(range(told[0], 13)))
                self.assertTrue(seams_told(rule, 40))
            single = [length for length in range(1, 13) if one_parent(rule, length)]
            self.exactly(single, list(range(13 - len(single), 13)))
        self.exactly(told_from(((0, 1, 0), (1, 0, 1)), 40), None)
        self.exactly(told_from(((0, 1), (0, 1)), 40), 1)
        self.exactly(one_parent(((0, 1), (0, 1)), 40), False)
        self.exactly(told_from(ROUND[1][0], 9), None)
        self.exactly(told_from(GOLD, 1), 1)

    def test_refusals(self):
        wrong = {"rule": NO_GROWING, "word": no_words(2) + ((),), "n": NO_NUMBERS}
        for function in (parents_of, seams_of):
            self.refuses_each(function, {"rule": GOLD, "word": (1, 1)}, wrong)
        self.refuses_each(is_parent, {"rule": GOLD, "word": (1, 1), "thing": None}, wrong)
        self.refuses_each(grandparents, {"rule": GOLD, "word": (1, 1), "n": 1}, wrong)
        self.refuses_each(grandparents, {"rule": GOLD, "word": (1, 0), "n": 1}, wrong)
        lengths = NO_INTEGERS + (0, -1, -10 ** 59)
        for function in (one_parent, seams_told):
            self.refuses_each(function, {"rule": GOLD, "length": 2}, {"rule": NO_GROWING, "length": lengths})
        self.refuses_each(told_from, {"rule": GOLD, "most": 2}, {"rule": NO_GROWING, "most": lengths})


if __name__ == "__main__":
    unittest.main()
