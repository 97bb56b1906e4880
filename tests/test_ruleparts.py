"""[16], [17]: letters, what becomes of words, turned rules, powers, other names."""

import itertools
import unittest

from ledalong.ruleparts import becomes, letters_of, power, renamed, turned
from tests import plain
from tests.samples import GOLD, NO_INTEGERS, NO_RULES, NO_TUPLES, RULES, THUE, Case, no_words, words_over


class RuleParts(Case):

    def test_letters_of(self):
        for rule in RULES:
            self.exactly(letters_of(rule), len(rule))

    def test_becomes(self):
        for rule in RULES:
            for word in words_over(len(rule), 3):
                self.exactly(becomes(rule, word), plain.spread(rule, word))
        self.exactly(becomes(GOLD, ()), ())
        self.exactly(becomes(((0,),), (0,) * 40), (0,) * 40)

    def test_turned(self):
        for rule in RULES:
            self.exactly(turned(rule), tuple(tuple(reversed(block)) for block in rule))
            self.exactly(turned(turned(rule)), rule)

    def test_power(self):
        for rule in RULES:
            for n in range(1, 6):
                blocks = tuple(plain.block(rule, a, n) for a in range(len(rule)))
                self.exactly(power(rule, n), blocks)
                self.exactly(turned(power(rule, n)), power(turned(rule), n))
                if sum(len(block) for block in blocks) < 100:
                    for m in (1, 2, 3):
                        self.exactly(power(blocks, m), power(rule, n * m))

    def test_great_powers(self):
        turn = ((1,), (2,), (0,))
        for n in (3 * 10 ** 58, 3 * 10 ** 58 + 1, 3 * 10 ** 58 + 2):
            rests = [(a + n) % 3 for a in range(3)]
            self.exactly(power(turn, n), tuple((rest,) for rest in rests))
        self.exactly(power(((0, 1), (1,)), 1500), ((0,) + (1,) * 1500, (1,)))
        self.exactly(power(((0,),), 10 ** 60 - 1), ((0,),))
        self.assertEqual(len(power(THUE, 9)[0]), 512)

    def test_renamed(self):
        self.exactly(renamed(((0, 1, 2), (2,), (1, 1)), (1, 2, 0)), ((2, 2), (1, 2, 0), (0,)))
        for rule in RULES:
            letters = range(len(rule))
            for names in itertools.permutations(letters):
                other = renamed(rule, names)
                back = tuple(names.index(a) for a in letters)
                self.exactly(renamed(other, back), rule)
                for word in words_over(len(rule), 2):
                    called = tuple(names[a] for a in word)
                    self.exactly(becomes(other, called), tuple(names[a] for a in becomes(rule, word)))

    def test_refusals(self):
        no_names = NO_TUPLES + ((), (0,), (0, 0), (1, 1), (0, 2), (1, 2), (0, 1, 2), (0, 1, 1), (1, 0, 0), (True, 0))
        no_names += ((0, True), (-1, 0), (None, 0))
        self.refuses_each(letters_of, {"rule": GOLD}, {"rule": NO_RULES})
        self.refuses_each(turned, {"rule": GOLD}, {"rule": NO_RULES})
        self.refuses_each(becomes, {"rule": GOLD, "word": (0,)}, {"rule": NO_RULES, "word": no_words(2)})
        self.refuses_each(power, {"rule": GOLD, "n": 2}, {"rule": NO_RULES, "n": NO_INTEGERS + (0, -1, -10 ** 59)})
        self.refuses_each(renamed, {"rule": GOLD, "names": (1, 0)}, {"rule": NO_RULES, "names": no_names})


if __name__ == "__main__":
    unittest.main()
