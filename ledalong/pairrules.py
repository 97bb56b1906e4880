"""The rule of pairs: the answers of a machine along a rule, made by a rule."""

from ledalong.blocks import block_in
from ledalong.families import families_in, family_at
from ledalong.helper import led, must_hold, spread
from ledalong.kinds import is_integer, is_long, is_number, is_same
from ledalong.worldmaps import need_growing


def pair_rule(rule, machine):
    """The rule of pairs."""
    need_growing(rule, machine)
    families, start = families_in(rule, machine)
    words = [block_in(rule, a, len(families) - start) for a in range(len(rule))]
    return tuple([pair_block(families[start], words[a], q) for a, q in pairs_of(rule, machine)])


def pair_words(rule, machine):
    """For each letter of the rule of pairs the answers that it stands for."""
    need_growing(rule, machine)
    start = families_in(rule, machine)[1]
    words = [block_in(rule, a, start) for a in range(len(rule))]
    return tuple([led(machine, q, words[a])[1] for a, q in pairs_of(rule, machine)])


def pair_paper(rule, machine):
    """A paper that lets_pairs accepts."""
    need_growing(rule, machine)
    families, start = families_in(rule, machine)
    return start, len(families) - start, pair_rule(rule, machine), pair_words(rule, machine)


def lets_pairs(rule, machine, thing):
    """How many letters the rule of pairs has of which the paper tells."""
    need_growing(rule, machine)
    must_hold(is_shaped(thing), "shape", -1)
    start, period, blocks, words = thing
    family = family_at(rule, machine, start)
    must_hold(family == family_at(rule, machine, start + period), "levels", -1)
    pairs = pairs_of(rule, machine)
    must_hold(len(blocks) == len(pairs), "blocks", -1)
    must_hold(len(words) == len(pairs), "words", -1)
    for k, (a, q) in enumerate(pairs):
        word = block_as_long(rule, a, period, blocks[k])
        must_hold(word is not None and is_same(blocks[k], pair_block(family, word, q)), "block", k)
    for k, (a, q) in enumerate(pairs):
        word = block_as_long(rule, a, start, words[k])
        must_hold(word is not None and is_same(words[k], led(machine, q, word)[1]), "word", k)
    return len(pairs)


def is_shaped(thing):
    """Whether any value is a quadruple of a number, an integer from 1 on, and two tuples."""
    if not (is_long(thing, 4) and is_number(thing[0]) and is_integer(thing[1]) and thing[1] >= 1):
        return False
    return isinstance(thing[2], tuple) and isinstance(thing[3], tuple)


def pairs_of(rule, machine):
    """All pairs of a letter and a standing, in order."""
    return [(a, q) for a in range(len(rule)) for q in range(len(machine))]


def pair_block(family, word, standing):
    """The letters of the rule of pairs along a word, from a standing on, if letters lead as the family tells."""
    letters = []
    for b in word:
        letters.append(b * len(family[b]) + standing)
        standing = family[b][standing]
    return tuple(letters)


def block_as_long(rule, letter, level, thing):
    """The block of a letter of a level if any value is a tuple as long as this, or None.

    Blocks never get shorter, so what is too long for the value is not written out.
    """
    if not isinstance(thing, tuple):
        return None
    block = (letter,)
    for _ in range(level):
        if len(block) > len(thing):
            return None
        block = spread(rule, block)
    return block if len(block) == len(thing) else None
