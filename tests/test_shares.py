"""[98], [99], [102]: shares of letters, of pairs, and of words."""

import fractions
import functools
import itertools
import math
import random
import unittest

from ledalong.blocks import counts_in, length_of
from ledalong.ruleparts import power, renamed, turned
from ledalong.shares import pair_shares, share_of_word, shares_of
from ledalong.worlds import legal_pairs, words_of
from tests import plain
from tests.samples import DOUBLE, GOLD, GROWING, LONG, NO_GROWING, THUE, Case, no_words, words_over

Fraction = fractions.Fraction


def some_even_rules(each=5):
    """Even rules that grow, by chance, always the same ones."""
    chance = random.Random(99)
    found = []
    for many, size in itertools.product((2, 3, 4), (2, 3, 4)):
        some = []
        while len(some) < each:
            rule = tuple(tuple(chance.randrange(many) for _ in range(size)) for _ in range(many))
            if plain.does_grow(rule) is not None:
                some.append(rule)
        found += some
    return found


EVEN = [rule for rule in GROWING if len({len(block) for block in rule}) == 1] + some_even_rules()
UNEVEN = tuple(rule for rule in GROWING if len({len(block) for block in rule}) > 1)


def told(share):
    """A fraction as a share is told."""
    return share.numerator, share.denominator


def lasting(counts):
    """The fractions, 1 together, that come again, if of each thing so many things come as counts tell.

    Each row of counts has the same sum. The unknown fractions are told one by one by the others.
    """
    many = len(counts)
    total = sum(counts[0])
    rows = [[Fraction(counts[x][y] - (total if x == y else 0)) for x in range(many)] + [Fraction(0)] for y in range(many)]
    rows.append([Fraction(1)] * (many + 1))
    for at in range(many):
        chosen = next(k for k in range(at, len(rows)) if rows[k][at] != 0)
        rows[at], rows[chosen] = rows[chosen], rows[at]
        rows[at] = [part / rows[at][at] for part in rows[at]]
        for k in range(len(rows)):
            if k != at:
                rows[k] = [part - rows[k][at] * other for part, other in zip(rows[k], rows[at])]
    return [rows[at][many] for at in range(many)]


@functools.lru_cache(None)
def plain_shares(rule):
    """The shares of the letters, by what becomes of them."""
    return lasting([[block.count(b) for b in range(len(rule))] for block in rule])


@functools.lru_cache(None)
def plain_pair_shares(rule):
    """The share of each legal pair, by the pairs that begin in the block of its first letter."""
    pairs = sorted(word for word in plain.world(rule, 2) if len(word) == 2)
    begun = []
    for a, b in pairs:
        text = rule[a] + rule[b]
        begun.append([text[at:at + 2] for at in range(len(rule[a]))])
    return dict(zip(pairs, lasting([[row.count(pair) for pair in pairs] for row in begun])))


@functools.lru_cache(None)
def plain_share(rule, word):
    """The share of a word, by those of shorter words of which it may have come."""
    if len(word) == 0:
        return Fraction(1)
    if len(word) == 1:
        return plain_shares(rule)[word[0]]
    if len(word) == 2:
        return plain_pair_shares(rule).get(word, Fraction(0))
    base = len(rule[0])
    total = Fraction(0)
    for above in words_of(rule, (len(word) - 2) // base + 2):
        text = plain.spread(rule, above)
        many = sum(text[at:at + len(word)] == word for at in range(base))
        total += many * plain_share(rule, above) if many > 0 else 0
    return total / base


class Shares(Case):

    def test_many_rules(self):
        self.assertGreater(len(EVEN), 50)
        self.assertEqual({len(rule) for rule in EVEN}, {1, 2, 3, 4})
        self.assertEqual({len(rule[0]) for rule in EVEN}, {2, 3, 4})

    def test_letters(self):
        for rule in EVEN:
            found = shares_of(rule)
            self.exactly(found, tuple(told(share) for share in plain_shares(rule)))
            # What becomes of the letters has them in the same shares.
            base = len(rule[0])
            for b in range(len(rule)):
                come = sum(Fraction(*found[a]) * block.count(b) for a, block in enumerate(rule))
                self.assertEqual(come, base * Fraction(*found[b]))
            self.assertEqual(sum(Fraction(*share) for share in found), 1)
            self.assertTrue(all(math.gcd(*share) == 1 and share[0] > 0 for share in found))
        self.exactly(shares_of(rule=LONG), shares_of(LONG))

    def test_letters_in_blocks_of_high_levels(self):
        for rule in EVEN:
            length = length_of(rule, 0, 200)
            for letter in range(len(rule)):
                counts = counts_in(rule, letter, 200)
                for count, share in zip(counts, shares_of(rule)):
                    self.assertLess(abs(Fraction(count, length) - Fraction(*share)), Fraction(1, 10 ** 6))

    def test_pairs(self):
        for rule in EVEN:
            expected = tuple((pair, told(share)) for pair, share in sorted(plain_pair_shares(rule).items()))
            self.exactly(pair_shares(rule), expected)
            self.exactly(tuple(pair for pair, _ in expected), legal_pairs(rule))
            self.assertEqual(sum(Fraction(*share) for _, share in expected), 1)
        self.exactly(pair_shares(rule=THUE), pair_shares(THUE))

    def test_words(self):
        for k, rule in enumerate(EVEN):
            for word in words_over(len(rule), 4)[::1 if len(rule) < 3 else 3]:
                self.exactly(share_of_word(rule, word), told(plain_share(rule, word)))
            for length in (5, 9, 17, 40):
                words = words_of(rule, length)
                for word in words[::len(words) // 3 + 1]:
                    self.exactly(share_of_word(rule, word), told(plain_share(rule, word)))
                    away = word[:k % length] + ((word[k % length] + 1) % len(rule),) + word[k % length + 1:]
                    self.exactly(share_of_word(rule, away), told(plain_share(rule, away)))
        self.exactly(share_of_word(rule=THUE, word=(0, 0, 1)), (1, 6))

    def test_words_in_long_blocks(self):
        for rule in EVEN[::3]:
            level = 1
            while len(rule[0]) ** level < 3000:
                level += 1
            block = plain.block(rule, len(rule) - 1, level)
            for length in (1, 2, 3, 5):
                for word in words_of(rule, length)[::4]:
                    often = sum(block[at:at + length] == word for at in range(len(block)))
                    self.assertLess(abs(Fraction(often, len(block)) - Fraction(*share_of_word(rule, word))), Fraction(1, 12))

    def test_consequences(self):
        for rule in EVEN[::2]:
            for length in (0, 1, 2, 3, 6):
                words = words_of(rule, length)
                shares = [Fraction(*share_of_word(rule, word)) for word in words]
                self.assertEqual(sum(shares), 1)
                for word, share in list(zip(words, shares))[::3]:
                    self.assertGreater(share, 0)
                    for more in ([(*word, a) for a in range(len(rule))], [(a, *word) for a in range(len(rule))]):
                        self.assertEqual(sum(Fraction(*share_of_word(rule, far)) for far in more), share)
            self.exactly(tuple(share_of_word(rule, (a,)) for a in range(len(rule))), shares_of(rule))
            self.exactly(tuple((pair, share_of_word(rule, pair)) for pair in legal_pairs(rule)), pair_shares(rule))

    def test_other_rules_of_the_same_world(self):
        for rule in EVEN[::5]:
            names = tuple(range(len(rule)))[::-1]
            self.exactly(shares_of(renamed(rule, names)), shares_of(rule)[::-1])
            self.exactly(shares_of(power(rule, 3)), shares_of(rule))
            self.exactly(pair_shares(power(rule, 2)), pair_shares(rule))
            for word in words_of(rule, 4):
                self.exactly(share_of_word(turned(rule), word[::-1]), share_of_word(rule, word))

    def test_edges(self):
        one = ((0, 0, 0),)
        self.exactly([shares_of(one), pair_shares(one), share_of_word(one, (0,) * 40), share_of_word(one, ())],
                     [((1, 1),), (((0, 0), (1, 1)),), (1, 1), (1, 1)])
        self.exactly([share_of_word(THUE, ()), share_of_word(THUE, (0, 0, 0)), share_of_word(DOUBLE, (1, 1)), share_of_word(THUE, (1,) * 40)],
                     [(1, 1), (0, 1), (0, 1), (0, 1)])
        self.exactly([shares_of(LONG), shares_of(((0, 1), (0, 1))), pair_shares(((0, 1), (0, 1)))],
                     [((16, 21), (4, 21), (1, 21)), ((1, 2), (1, 2)), (((0, 1), (1, 2)), ((1, 0), (1, 2)))])

    def test_refusals(self):
        wrong = NO_GROWING + UNEVEN
        self.refuses_each(shares_of, {"rule": THUE}, {"rule": wrong})
        self.refuses_each(pair_shares, {"rule": THUE}, {"rule": wrong})
        self.refuses_each(share_of_word, {"rule": THUE, "word": (0, 0, 0)}, {"rule": wrong, "word": no_words(2)})
        self.refused("rule", shares_of, GOLD)
        self.refused("word", share_of_word, LONG, (3,))


if __name__ == "__main__":
    unittest.main()
