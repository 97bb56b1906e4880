"""What a machine answers, and in which standing it hears a letter, at places of blocks however far."""

from ledalong.blocks import length_rows
from ledalong.families import next_family
from ledalong.farplaces import path_in, word_in
from ledalong.helper import led, letter_maps, need
from ledalong.kinds import is_below, is_number
from ledalong.worldmaps import need_growing


def answers_of(rule, machine, letter, standing, level, first, many):
    """The answers along the block, begun in the standing, at many places from the first one on."""
    need_begun(rule, machine, letter, standing, level)
    need(is_number(first), "first")
    rows = length_rows(rule, level)
    need(is_number(many) and first + many <= rows[level][letter], "many")
    return answers_along(rule, machine, rows, (letter, standing), first, many)


def standing_at(rule, machine, letter, standing, level, place):
    """The standing in which the letter at the place of the block is heard."""
    need_begun(rule, machine, letter, standing, level)
    rows = length_rows(rule, level)
    need(is_below(place, rows[level][letter]), "place")
    return heard_at(rule, machine, rows, (letter, standing), place)[1]


def answer_at(rule, machine, letter, standing, level, place):
    """The answer to the letter at the place of the block."""
    need_begun(rule, machine, letter, standing, level)
    rows = length_rows(rule, level)
    need(is_below(place, rows[level][letter]), "place")
    return heard_at(rule, machine, rows, (letter, standing), place)[2]


def need_begun(rule, machine, letter, standing, level):
    """Refuse what names no block that is begun in a standing."""
    need_growing(rule, machine)
    need(is_below(letter, len(rule)), "letter")
    need(is_below(standing, len(machine)), "standing")
    need(is_number(level), "level")


def families_to(rule, machine, level):
    """The families of the levels 0 to level."""
    families = [letter_maps(machine)]
    for _ in range(level):
        families.append(next_family(rule, families[-1]))
    return families


def way_to(rule, families, rows, pair, place):
    """The blocks that are passed by on the way to a place, and the pair of its letter and standing.

    The way begins with a pair, its letter's block being of the last level of which rows tell lengths, and
    the families of all levels are told. Of each block that is passed by there is the triple of its level,
    its letter and the standing in which it is begun.
    """
    letter, standing = pair
    passed = []
    path = path_in(rule, rows, letter, place)
    for step, index in enumerate(path):
        below = len(path) - 1 - step
        for b in rule[letter][:index]:
            passed.append((below, b, standing))
            standing = families[below][b][standing]
        letter = rule[letter][index]
    return passed, (letter, standing)


def heard_at(rule, machine, rows, pair, place):
    """The letter at a place, the standing in which it is heard, and the answer."""
    letter, standing = way_to(rule, families_to(rule, machine, len(rows) - 1), rows, pair, place)[1]
    return letter, standing, machine[standing][letter][1]


def answers_along(rule, machine, rows, pair, first, many):
    """The answers at so many places, which there are, from the first one on."""
    if many == 0:
        return ()
    standing = heard_at(rule, machine, rows, pair, first)[1]
    return led(machine, standing, word_in(rule, rows, pair[0], first, many))[1]
