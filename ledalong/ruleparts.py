"""Rules: their letters, what becomes of words, and rules made from rules."""

from ledalong.helper import need, next_blocks, spread
from ledalong.kinds import are_below, is_integer, is_order, is_rule


def letters_of(rule):
    """How many letters the rule has."""
    need(is_rule(rule), "rule")
    return len(rule)


def becomes(rule, word):
    """What becomes of a word: the blocks of its letters, one behind the other."""
    need(is_rule(rule), "rule")
    need(are_below(word, len(rule)), "word")
    return spread(rule, word)


def turned(rule):
    """The rule with each block the other way about."""
    need(is_rule(rule), "rule")
    return tuple([block[::-1] for block in rule])


def power(rule, n):
    """The rule with the block of the level n, from 1 on, for each letter."""
    need(is_rule(rule), "rule")
    need(is_integer(n) and n >= 1, "n")
    # Doubled along the digits of n, for n may be great where blocks do not grow;
    # no rule on the way is a higher power than n, so none is longer than the result.
    blocks = rule
    for digit in range(n.bit_length() - 2, -1, -1):
        blocks = next_blocks(blocks, blocks)
        if (n >> digit) & 1 == 1:
            blocks = next_blocks(rule, blocks)
    return blocks


def renamed(rule, names):
    """The rule in which each letter a is called names[a]."""
    need(is_rule(rule), "rule")
    need(is_order(names, len(rule)), "names")
    return tuple([tuple([names[b] for b in rule[names.index(name)]]) for name in range(len(rule))])
