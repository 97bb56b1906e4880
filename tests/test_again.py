"""[30]: where words come again."""

import unittest

from ledalong.again import first_in, level_of_word, stretch_of_word
from tests import plain
from tests.samples import GOLD, GROWING, LONG, NO_GROWING, THUE, Case, no_below
from tests.test_worlds import no_words_of, world

# Some words of these come again only behind thousands of letters.
RARE = (((0, 1, 2, 3), (1, 2, 3, 0), (2, 3, 0, 1), (3, 0, 1, 2)), ((2, 1, 2, 3), (2, 1, 1, 1), (0,), (2, 2)),
        ((2, 2, 2, 2), (2, 2, 2, 2), (1, 1, 3, 3), (1, 0, 0, 0)))


def some_words(rule):
    """Words with one to five letters, few of each length."""
    words = sorted(world(rule))
    return [word for length in range(1, 6) for word in [part for part in words if len(part) == length][:7]]


def plain_level(rule, word, letters):
    """The least level at which the word stands in the blocks of these letters, and its places there."""
    blocks = [(a,) for a in letters]
    level = 0
    while min(plain.stands(word, block) for block in blocks) < 0:
        level += 1
        blocks = [plain.spread(rule, block) for block in blocks]
    return level, [plain.stands(word, block) for block in blocks]


class Again(Case):

    def test_level_of_word(self):
        for rule in GROWING:
            for word in some_words(rule):
                self.exactly(level_of_word(rule, word), plain_level(rule, word, range(len(rule)))[0])

    def test_first_in(self):
        for rule in GROWING:
            for word in some_words(rule):
                for letter in range(len(rule)):
                    level, places = plain_level(rule, word, [letter])
                    self.exactly(first_in(rule, letter, word), (level, places[0]))

    def test_stretch_of_word_by_a_long_block(self):
        for rule in GROWING:
            text = "0"
            while len(text) < (100000 if rule in RARE else 6000):
                text = "".join("".join(str(a) for a in rule[int(letter)]) for letter in text)
            for word in some_words(rule)[:15]:
                part = "".join(str(a) for a in word)
                places = [at for at in range(len(text)) if text.startswith(part, at)]
                widest = max(late - at for at, late in zip(places, places[1:]))
                self.exactly(stretch_of_word(rule, word), widest + len(word) - 1)

    def test_stretch_of_word_by_all_words(self):
        for rule in GROWING:
            words = plain.world(rule, 12)
            for word in some_words(rule):
                lacking = [len(other) for other in words if plain.stands(word, other) < 0]
                if max(lacking) < 12:
                    self.exactly(stretch_of_word(rule, word), max(lacking) + 1)
                else:
                    self.assertGreater(stretch_of_word(rule, word), 12)

    def test_edges(self):
        for rule in GROWING:
            self.exactly(level_of_word(rule, ()), 0)
            self.exactly(stretch_of_word(rule, ()), 0)
            for letter in range(len(rule)):
                self.exactly(first_in(rule, letter, ()), (0, 0))
                self.exactly(first_in(rule, letter, (letter,)), (0, 0))
        self.exactly(level_of_word(((0, 0),), (0,)), 0)
        self.exactly([stretch_of_word(((0, 0),), (0,) * n) for n in (1, 2, 7)], [1, 2, 7])
        self.exactly(first_in(((0, 0),), 0, (0,) * 5), (3, 0))
        self.exactly(stretch_of_word(LONG, (2,)), 32)
        self.exactly(first_in(LONG, 1, (2,)), (1, 3))

    def test_long_words(self):
        word = plain.block(THUE, 0, 20)[777:817]
        level, place = first_in(THUE, 0, word)
        self.exactly(plain.stands(word, plain.block(THUE, 0, level)), place)
        self.assertLess(plain.stands(word, plain.block(THUE, 0, level - 1)), 0)
        self.exactly(level_of_word(THUE, word), plain_level(THUE, word, (0, 1))[0])
        self.exactly(stretch_of_word(GOLD, plain.block(GOLD, 0, 7)), 34 + 34 - 1)

    def test_refusals(self):
        wrong = {"rule": NO_GROWING, "letter": no_below(2), "word": no_words_of(GOLD)}
        self.refuses_each(level_of_word, {"rule": GOLD, "word": (0,)}, wrong)
        self.refuses_each(stretch_of_word, {"rule": GOLD, "word": (0,)}, wrong)
        self.refuses_each(first_in, {"rule": GOLD, "letter": 1, "word": (0,)}, wrong)
        for word in ((0, 0, 0), (1, 1, 1), (0, 1, 0, 1, 0)):
            for function in (level_of_word, stretch_of_word):
                self.refused("word", function, THUE, word)
            self.refused("word", first_in, THUE, 0, word)


if __name__ == "__main__":
    unittest.main()
