"""Blocks of any level: written out, their lengths, and how often each letter stands in them."""

from ledalong.helper import added_up, need, spread
from ledalong.kinds import is_below, is_number, is_rule


def block_of(rule, letter, level):
    """The block of the letter of this level."""
    need_block(rule, letter, level)
    return block_in(rule, letter, level)


def length_of(rule, letter, level):
    """How many letters the block of the letter of this level has."""
    need_block(rule, letter, level)
    return length_rows(rule, level)[level][letter]


def lengths_of(rule, letter, level):
    """How many letters the blocks of the letter of the levels 0 to level have."""
    need_block(rule, letter, level)
    return tuple([row[letter] for row in length_rows(rule, level)])


def counts_in(rule, letter, level):
    """How often each letter stands in the block of the letter of this level."""
    need_block(rule, letter, level)
    return tuple([count_rows(rule, other, level)[level][letter] for other in range(len(rule))])


def need_block(rule, letter, level):
    """Refuse what names no block."""
    need(is_rule(rule), "rule")
    need(is_below(letter, len(rule)), "letter")
    need(is_number(level), "level")


def block_in(rule, letter, level):
    """The block of a letter of a level."""
    block = (letter,)
    for _ in range(level):
        block = spread(rule, block)
    return block


def length_rows(rule, level):
    """For each level from 0 on how many letters the block of each letter has."""
    return added_rows(rule, [1 for _ in rule], level)


def count_rows(rule, other, level):
    """For each level from 0 on how often the other letter stands in the block of each letter."""
    return added_rows(rule, [1 if a == other else 0 for a in range(len(rule))], level)


def added_rows(rule, first, level):
    """For each level from 0 on what the letters have, first at level 0, added up along the blocks."""
    rows = [first]
    for _ in range(level):
        rows.append(added_up(rule, rows[-1]))
    return rows
