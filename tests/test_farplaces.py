"""[37], [38], [39]: places in blocks."""

import random
import unittest

from ledalong.blocks import counts_in, length_of
from ledalong.farplaces import count_before, letter_at, level_holding, path_to, place_by, place_of, seeds, word_at
from tests import plain
from tests.samples import (GOLD, GROWING, NO_GROWING, NO_NUMBERS, NO_RULES, NO_TUPLES, RULES, THUE, Case, no_below)


def blocks_written_out(most):
    """Rules, letters, levels, and blocks with at most so many letters."""
    for rule in RULES:
        for letter in range(len(rule)):
            for level in range(6):
                block = plain.block(rule, letter, level)
                if len(block) <= most:
                    yield rule, letter, level, block


def followed(rule, letter, path):
    """The letter to which a path leads."""
    for index in path:
        letter = rule[letter][index]
    return letter


class FarPlaces(Case):

    def test_letters_and_paths(self):
        for rule, letter, level, block in blocks_written_out(150):
            paths = []
            for place in range(len(block)):
                self.exactly(letter_at(rule, letter, level, place), block[place])
                path = path_to(rule, letter, level, place)
                self.exactly(len(path), level)
                self.exactly(followed(rule, letter, path), block[place])
                self.exactly(place_by(rule, letter, path), place)
                paths.append(path)
            self.exactly(paths, sorted(set(paths)))

    def test_words(self):
        for rule, letter, level, block in blocks_written_out(40):
            for place in range(len(block) + 1):
                for length in range(len(block) - place + 1):
                    self.exactly(word_at(rule, letter, level, place, length), block[place:place + length])

    def test_counts_and_places(self):
        for rule, letter, level, block in blocks_written_out(100):
            for other in range(len(rule)):
                for place in range(len(block) + 1):
                    self.exactly(count_before(rule, letter, level, place, other), block[:place].count(other))
                places = [place for place, a in enumerate(block) if a == other] + [None, None]
                for index, place in enumerate(places):
                    self.exactly(place_of(rule, letter, level, other, index), place)

    def test_far_places(self):
        chance = random.Random(5)
        for rule in RULES:
            for letter in range(len(rule)):
                level = chance.choice((60, 200))
                whole = length_of(rule, letter, level)
                for place in (0, whole - 1, whole // 2, chance.randrange(min(whole, 10 ** 60))):
                    self.far_place(rule, letter, level, place, whole)

    def far_place(self, rule, letter, level, place, whole):
        """What is told of one place hangs together, down to the blocks of its path."""
        path = path_to(rule, letter, level, place)
        found = letter_at(rule, letter, level, place)
        self.exactly((len(path), place_by(rule, letter, path)), (level, place))
        self.exactly(followed(rule, letter, path), found)
        counts = [count_before(rule, letter, level, place, other) for other in range(len(rule))]
        self.exactly(sum(counts), place)
        self.exactly(place_of(rule, letter, level, found, counts[found]), place)
        self.exactly(count_before(rule, letter, level, place + 1, found), counts[found] + 1)
        # The last four indexes lie in a block that can be written out.
        above = followed(rule, letter, path[:-4])
        begin = place - place_by(rule, above, path[-4:])
        block = plain.block(rule, above, 4)
        self.exactly(word_at(rule, letter, level, begin, len(block)), block)
        length = min(40, whole - place)
        word = tuple(letter_at(rule, letter, level, at) for at in range(place, place + length))
        self.exactly(word_at(rule, letter, level, place, length), word)

    def test_edges(self):
        for rule in RULES:
            for letter in range(len(rule)):
                self.exactly(letter_at(rule, letter, 0, 0), letter)
                self.exactly(path_to(rule, letter, 0, 0), ())
                self.exactly(place_by(rule, letter, ()), 0)
                self.exactly(word_at(rule, letter, 0, 0, 1), (letter,))
                whole = length_of(rule, letter, 150)
                self.exactly(word_at(rule, letter, 150, whole, 0), ())
                self.exactly(word_at(rule, letter, 150, 0, 0), ())
                for other, many in enumerate(counts_in(rule, letter, 150)):
                    self.exactly(count_before(rule, letter, 150, whole, other), many)
                    self.assertIsNone(place_of(rule, letter, 150, other, many))
                    if many:
                        self.assertIs(place_of(rule, letter, 150, other, many - 1).__class__, int)
        self.exactly(letter_at(THUE, 0, 200, 10 ** 59 + 3), bin(10 ** 59 + 3).count("1") % 2)

    def test_seeds(self):
        for rule in RULES:
            expected = []
            for letter in range(len(rule)):
                for n in range(1, 6):
                    if plain.block(rule, letter, n)[0] == letter:
                        expected.append((letter, n))
                        break
            self.exactly(seeds(rule), tuple(expected))
            self.assertTrue(expected)
            for letter, n in expected:
                self.exactly(plain.block(rule, letter, n), plain.block(rule, letter, 2 * n)[:length_of(rule, letter, n)])
        self.exactly(seeds(((1,), (2,), (3,), (0,))), ((0, 4), (1, 4), (2, 4), (3, 4)))
        self.exactly(seeds(((1,), (2,), (1,))), ((1, 2), (2, 2)))

    def test_level_holding(self):
        for rule in GROWING:
            for letter in range(len(rule)):
                for place in (0, 1, 2, 3, 5, 16, 63, 64, 1000, 10 ** 20, 10 ** 59):
                    level = level_holding(rule, letter, place)
                    self.assertGreater(length_of(rule, letter, level), place)
                    if level > 0:
                        self.assertLessEqual(length_of(rule, letter, level - 1), place)
        self.exactly([level_holding(THUE, 1, place) for place in (0, 1, 2, 3, 4)], [0, 1, 2, 2, 3])

    def test_refused_places(self):
        block = length_of(GOLD, 0, 5)
        for place in NO_NUMBERS + (block, block + 1, 10 ** 60):
            self.refused("place", letter_at, GOLD, 0, 5, place)
            self.refused("place", path_to, GOLD, 0, 5, place)
        for place in NO_NUMBERS + (block + 1, 10 ** 60):
            self.refused("place", word_at, GOLD, 0, 5, place, 0)
            self.refused("place", word_at, GOLD, 0, 5, place, None)
            self.refused("place", count_before, GOLD, 0, 5, place, 0)
            self.refused("place", count_before, GOLD, 0, 5, place, 2)
        for place in range(block + 1):
            self.refused("length", word_at, GOLD, 0, 5, place, block - place + 1)
        self.refused("place", letter_at, THUE, 0, 200, 2 ** 200)
        self.refused("length", word_at, THUE, 0, 200, 2 ** 200, 1)

    def test_refused_paths(self):
        wrong = NO_TUPLES + ((2,), (-1,), (True,), (None,), ("0",), ((0,),), (0, 2), (1, 1), (0, 1, 1), (1, 0, 1, 1), (0, True))
        self.refuses_each(place_by, {"rule": GOLD, "letter": 0, "path": (1, 0)},
                          {"rule": NO_RULES, "letter": no_below(2), "path": wrong})
        self.refused("path", place_by, GOLD, 1, (1,))

    def test_refusals(self):
        right = {"rule": GOLD, "letter": 1, "level": 3, "place": 1}
        wrong = {"rule": NO_RULES, "letter": no_below(2), "level": NO_NUMBERS, "place": NO_NUMBERS + (3, 4),
                 "length": NO_NUMBERS + (3,), "other": no_below(2), "index": NO_NUMBERS}
        self.refuses_each(letter_at, right, wrong)
        self.refuses_each(path_to, right, wrong)
        self.refuses_each(word_at, {**right, "length": 2}, {**wrong, "place": NO_NUMBERS + (4, 5)})
        self.refuses_each(count_before, {**right, "other": 0}, {**wrong, "place": NO_NUMBERS + (4, 5)})
        self.refuses_each(place_of, {"rule": GOLD, "letter": 1, "level": 3, "other": 0, "index": 1}, wrong)
        self.refuses_each(seeds, {"rule": GOLD}, wrong)
        self.refuses_each(level_holding, {"rule": GOLD, "letter": 1, "place": 9},
                          {"rule": NO_GROWING, "letter": no_below(2), "place": NO_NUMBERS})


if __name__ == "__main__":
    unittest.main()
