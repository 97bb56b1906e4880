"""[27], [28], [29]: the words of a world."""

import functools
import random
import unittest

from ledalong.ruleparts import power, turned
from ledalong.worlds import ahead_of, following, grows, is_word_of, legal_pairs, words_of
from tests import plain
from tests.samples import (GOLD, GROWING, NO_GROWING, NO_NUMBERS, NO_RULES, NO_TUPLES, STILL_RULES, THUE, Case, no_words,
                           words_over)

LONGEST = 7


@functools.lru_cache(None)
def world(rule):
    """All words with at most LONGEST letters, by slow means."""
    return plain.world(rule, LONGEST)


def some_rules(many):
    """Rules by chance, always the same ones."""
    chance = random.Random(17)
    rules = []
    for _ in range(many):
        letters = chance.randint(1, 4)
        rules.append(tuple(tuple(chance.randrange(letters) for _ in range(chance.randint(1, 4))) for _ in range(letters)))
    return rules


def no_words_of(rule):
    """Values that are no word of the rule: of no letters of it, or not of its world."""
    wrong = [word for word in words_over(len(rule), 3) if word not in world(rule)]
    return no_words(len(rule)) + tuple(wrong)


class Worlds(Case):

    def test_grows(self):
        for rule in STILL_RULES:
            self.assertIsNone(grows(rule))
        for rule in list(GROWING) + some_rules(400):
            self.exactly(grows(rule), plain.does_grow(rule))
        self.exactly(grows(((0, 0),)), 0)
        self.exactly(grows(((1,), (2,), (3,), (0, 1))), 10)
        self.exactly(grows(((1,), (0, 1))), 2)

    def test_grows_with_many_letters(self):
        for many in (5, 6, 7, 9):
            rule = tuple((a + 1,) for a in range(many - 1)) + ((0, 1),)
            self.exactly(grows(rule), (many - 1) ** 2 + 1)
            self.assertIsNone(grows(tuple((a + 1,) for a in range(many - 1)) + ((0, 0),)))

    def test_words_of(self):
        for rule in GROWING:
            for length in range(LONGEST + 1):
                words = sorted(word for word in world(rule) if len(word) == length)
                self.exactly(words_of(rule, length), tuple(words))
            self.exactly(legal_pairs(rule), words_of(rule, 2))
        for rule in some_rules(60):
            if grows(rule) is not None:
                for length in (0, 1, 2, 3, 5, 6):
                    words = sorted(word for word in plain.world(rule, 6) if len(word) == length)
                    self.exactly(words_of(rule, length), tuple(words))

    def test_long_words(self):
        for rule in GROWING:
            words = words_of(rule, 40)
            self.exactly(words, tuple(sorted(set(words))))
            n, block = 0, (0,)
            while len(block) < 600:
                n, block = n + 1, plain.block(rule, 0, n + 1)
            found = {block[at:at + 40] for at in range(len(block) - 39)}
            self.assertTrue(found <= set(words))
            for word in words:
                self.assertTrue({word[:7], word[20:27], word[33:]} <= world(rule))
                self.assertIs(is_word_of(rule, word), True)
        self.assertEqual([len(words_of(GOLD, n)) for n in (39, 40)], [40, 41])
        self.assertEqual([len(words_of(THUE, n)) for n in (32, 33, 40)], [94, 96, 124])

    def test_is_word_of(self):
        for rule in GROWING:
            for word in words_over(len(rule), 4):
                self.assertIs(is_word_of(rule, word), word in world(rule))
            for word in sorted(world(rule)):
                self.assertIs(is_word_of(rule, word), True)
            for value in no_words(len(rule)):
                self.assertIs(is_word_of(rule, value), False)
        self.assertIs(is_word_of(THUE, ()), True)
        far = plain.block(THUE, 0, 12)
        self.assertIs(is_word_of(THUE, far), True)
        self.assertIs(is_word_of(THUE, far[:2048] + far[:2048]), True)
        self.assertIs(is_word_of(THUE, far[:2001] + (1 - far[2001],) + far[2002:]), False)

    def test_following_and_ahead_of(self):
        for rule in GROWING:
            letters = range(len(rule))
            for word in sorted(world(rule)):
                if len(word) < LONGEST:
                    self.exactly(following(rule, word), tuple(a for a in letters if word + (a,) in world(rule)))
                    self.exactly(ahead_of(rule, word), tuple(a for a in letters if (a,) + word in world(rule)))

    def test_consequences(self):
        for rule in GROWING:
            for word in words_of(rule, 12):
                self.assertTrue(is_word_of(rule, word[3:9]) and is_word_of(rule, plain.spread(rule, word)))
                self.assertTrue(following(rule, word) and ahead_of(rule, word))
            for n in (2, 3):
                self.exactly(words_of(power(rule, n), 6), words_of(rule, 6))
            other = tuple(sorted(word[::-1] for word in words_of(rule, 6)))
            self.exactly(words_of(turned(rule), 6), other)
            for n in (1, 2, 3):
                blocks = [plain.block(rule, a, n) for a in range(len(rule))]
                least = min(len(block) for block in blocks)
                begun = set()
                for a, b in legal_pairs(rule):
                    both = blocks[a] + blocks[b]
                    begun |= {both[at:at + least + 1] for at in range(len(blocks[a]))}
                self.exactly(words_of(rule, least + 1), tuple(sorted(begun)))

    def test_refusals(self):
        self.refuses_each(grows, {"rule": GOLD}, {"rule": NO_RULES})
        self.refuses_each(legal_pairs, {"rule": GOLD}, {"rule": NO_GROWING})
        self.refuses_each(words_of, {"rule": GOLD, "length": 3}, {"rule": NO_GROWING, "length": NO_NUMBERS})
        self.refuses_each(is_word_of, {"rule": GOLD, "word": [5]}, {"rule": NO_GROWING})
        for function in (following, ahead_of):
            for rule in (GOLD, THUE, ((0, 0),)):
                wrong = {"rule": NO_GROWING, "word": no_words_of(rule)}
                self.refuses_each(function, {"rule": rule, "word": (0,)}, wrong)
        self.assertIn((1, 1), no_words_of(GOLD))
        self.assertIn(None, NO_TUPLES)


if __name__ == "__main__":
    unittest.main()
