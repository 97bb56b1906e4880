"""[35], [36]: blocks, their lengths, and how often letters stand in them."""

import unittest

from ledalong.blocks import block_of, counts_in, length_of, lengths_of
from tests import plain
from tests.samples import GOLD, NO_NUMBERS, NO_RULES, RULES, THUE, Case, no_below


class Blocks(Case):

    def test_against_blocks_written_out(self):
        for rule in RULES:
            for letter in range(len(rule)):
                lengths = ()
                for level in range(7):
                    block = plain.block(rule, letter, level)
                    lengths += (len(block),)
                    self.exactly(block_of(rule, letter, level), block)
                    self.exactly(length_of(rule, letter, level), len(block))
                    self.exactly(lengths_of(rule, letter, level), lengths)
                    self.exactly(counts_in(rule, letter, level), tuple(block.count(a) for a in range(len(rule))))

    def test_far_levels(self):
        for rule in RULES:
            letters = range(len(rule))
            for letter in letters:
                lengths = lengths_of(rule, letter, 200)
                self.exactly(len(lengths), 201)
                self.exactly(list(lengths), sorted(lengths))
                for level in (50, 199, 200):
                    self.exactly(length_of(rule, letter, level), lengths[level])
                    counts = counts_in(rule, letter, level)
                    self.exactly(sum(counts), lengths[level])
                    pieces = [counts_in(rule, a, level - 1) for a in rule[letter]]
                    self.exactly(counts, tuple(sum(piece[a] for piece in pieces) for a in letters))
                    self.exactly(lengths[level], sum(length_of(rule, a, level - 1) for a in rule[letter]))
        self.exactly(length_of(((0,) * 4,), 0, 200), 4 ** 200)
        self.exactly(counts_in(THUE, 1, 200), (2 ** 199, 2 ** 199))

    def test_where_blocks_do_not_grow(self):
        self.exactly(block_of(((0,), (1, 1, 1, 1)), 0, 200), (0,))
        self.exactly(block_of(((1,), (0,)), 0, 199), (1,))
        self.exactly(block_of(((0, 1), (1,)), 0, 200), (0,) + (1,) * 200)
        self.exactly(len(block_of(THUE, 0, 13)), 8192)
        self.exactly(lengths_of(((1,), (0,)), 1, 3), (1, 1, 1, 1))
        self.exactly(lengths_of(GOLD, 0, 0), (1,))

    def test_refusals(self):
        for function in (block_of, length_of, lengths_of, counts_in):
            right = {"rule": GOLD, "letter": 1, "level": 3}
            self.refuses_each(function, right, {"rule": NO_RULES, "letter": no_below(2), "level": NO_NUMBERS})


if __name__ == "__main__":
    unittest.main()
