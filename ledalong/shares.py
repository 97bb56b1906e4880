"""Shares: how often letters, pairs and words come in all rows of a world."""

from math import gcd, lcm

from ledalong.helper import need, next_blocks
from ledalong.kinds import are_below, is_even
from ledalong.worlds import is_growing, pairs_in


def shares_of(rule):
    """The shares of the letters."""
    need(is_even_growing(rule), "rule")
    return shares_by(weights_by([[block.count(b) for b in range(len(rule))] for block in rule]))


def pair_shares(rule):
    """The set of the pairs of a legal pair and its share."""
    need(is_even_growing(rule), "rule")
    return tuple([(pair, told) for pair, told in zip(pairs_in(rule), shares_by(pair_weights(rule)))])


def share_of_word(rule, word):
    """The share of the word."""
    need(is_even_growing(rule), "rule")
    need(are_below(word, len(rule)), "word")
    blocks = tuple([(a,) for a in range(len(rule))])
    # Each place of a row is one in the first of the blocks of a legal pair, which have all of the word.
    while len(blocks[0]) + 1 < len(word):
        blocks = next_blocks(rule, blocks)
    weights = pair_weights(rule)
    found = [begins_of_word(blocks[a] + blocks[b], len(blocks[a]), word) for a, b in pairs_in(rule)]
    return share_told(sum([weight * many for weight, many in zip(weights, found)]), sum(weights) * len(blocks[0]))


def is_even_growing(thing):
    """Whether any value is an even rule that grows."""
    return is_growing(thing) and is_even(thing)


def begins_of_word(text, places, word):
    """At how many of so many first places the word stands in the text."""
    return len([at for at in range(places) if text[at:at + len(word)] == word])


def pair_weights(rule):
    """For each legal pair a number, as often as it comes in proportion to the others."""
    pairs = pairs_in(rule)
    spreads = [rule[a] + rule[b][:1] for a, b in pairs]
    behind = [list(zip(far, far[1:])) for far in spreads]
    return weights_by([[row.count(pair) for pair in pairs] for row in behind])


def share_told(top, bottom):
    """A fraction as a share."""
    common = gcd(top, bottom)
    return top // common, bottom // common


def shares_by(weights):
    """The shares of what comes in this proportion."""
    total = sum(weights)
    return tuple([share_told(weight, total) for weight in weights])


def weights_by(counts):
    """For each thing an integer above 0, as often as it comes in proportion to the others.

    Of each thing so many things come, all in all as many of each, as counts tell; and each of them leads to
    each other one in some steps. So the weights that come again are told but for a factor: of each row of an
    equation, one for each thing, all but the parts of one thing and of the last one are cleared away.
    """
    many = len(counts)
    total = sum(counts[0])
    rows = [[counts[x][y] - (total if x == y else 0) for x in range(many)] for y in range(many)]
    for at in range(many - 1):
        rows = cleared(rows, at)
    last = 1
    for at in range(many - 1):
        last = lcm(last, rows[at][at])
    return [-rows[at][-1] * (last // rows[at][at]) for at in range(many - 1)] + [last]


def cleared(rows, at):
    """The equations with the part of this index in one of them alone, which has the index, too."""
    found = [k for k in range(at, len(rows)) if rows[k][at] != 0][0]
    chosen = rows[found]
    others = [row for k, row in enumerate(rows) if k != found]
    fresh = [thinned([part * chosen[at] - other * row[at] for part, other in zip(row, chosen)]) for row in others]
    return [*fresh[:at], chosen, *fresh[at:]]


def thinned(row):
    """An equation without common divisors of its parts."""
    common = 0
    for part in row:
        common = gcd(common, part)
    return [part // common for part in row] if common > 1 else row
