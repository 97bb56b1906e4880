"""[31], [32]: words counted."""

import unittest

from ledalong.wordcounts import branching, how_many
from ledalong.worlds import following
from tests.samples import BRANCHING, GOLD, GROWING, NO_GROWING, NO_NUMBERS, ROUND, THUE, Case
from tests.test_worlds import LONGEST, world


class WordCounts(Case):

    def test_how_many(self):
        for rule in GROWING:
            for length in range(LONGEST + 1):
                self.exactly(how_many(rule, length), len([word for word in world(rule) if len(word) == length]))
        self.exactly([how_many(GOLD, length) for length in (0, 1, 17, 40)], [1, 2, 18, 41])
        self.exactly(how_many(THUE, 40), 124)

    def test_branching(self):
        for rule in GROWING:
            for length in range(LONGEST):
                behind = {}
                for word in world(rule):
                    if len(word) == length + 1:
                        behind.setdefault(word[:-1], []).append(word[-1])
                expected = tuple(sorted(word for word, letters in behind.items() if len(letters) > 1))
                self.exactly(branching(rule, length), expected)
        self.exactly(branching(THUE, 0), ((),))
        self.exactly(branching(((0, 0),), 0), ())

    def test_one_letter_more(self):
        for rule in GROWING:
            for length in (0, 1, 2, 5, 11, 23):
                more = sum(len(following(rule, word)) - 1 for word in branching(rule, length))
                self.exactly(how_many(rule, length + 1), how_many(rule, length) + more)

    def test_round_or_not(self):
        for rule, word in ROUND:
            for length in (len(word) - 1, len(word), len(word) + 1, 13, 40):
                self.exactly(how_many(rule, length), len(word))
                self.exactly(branching(rule, length), ())
        for rule in BRANCHING:
            counts = [how_many(rule, length) for length in range(20)]
            self.exactly(counts, sorted(set(counts)))
            for length in (0, 1, 7, 19):
                self.assertTrue(branching(rule, length))

    def test_refusals(self):
        for function in (how_many, branching):
            self.refuses_each(function, {"rule": GOLD, "length": 2}, {"rule": NO_GROWING, "length": NO_NUMBERS})


if __name__ == "__main__":
    unittest.main()
