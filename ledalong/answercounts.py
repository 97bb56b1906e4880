"""How often answers come along blocks however long, and where they come first."""

from ledalong.blocks import length_rows
from ledalong.faranswers import families_to, need_begun, way_to
from ledalong.helper import need
from ledalong.kinds import is_below, is_number


def counts_of(rule, machine, letter, standing, level, many):
    """Pairs of each answer among the first many ones along the block, and how often it comes there."""
    need_begun(rule, machine, letter, standing, level)
    rows = length_rows(rule, level)
    need(is_below(many, rows[level][letter] + 1), "many")
    return counts_among(rule, machine, rows, (letter, standing), many)


def first_of(rule, machine, letter, standing, level, answer):
    """The first place of the block at which the answer is given, or None."""
    need_begun(rule, machine, letter, standing, level)
    need(is_number(answer), "answer")
    rows = length_rows(rule, level)
    firsts = letter_firsts(machine, answer)
    for below, family in enumerate(families_to(rule, machine, level)[:level]):
        firsts = next_firsts(rule, family, rows[below], firsts)
    place = firsts[letter][standing]
    return place if place >= 0 else None


def answers_in(machine):
    """The set of all answers of the machine."""
    return tuple(sorted({answer for standing in machine for _, answer in standing}))


def letter_amounts(machine):
    """For each letter and standing how often each of the answers of the machine comes, once or not at all."""
    answers = answers_in(machine)
    return [[[1 if answer == standing[a][1] else 0 for answer in answers] for standing in machine]
            for a in range(len(machine[0]))]


def next_amounts(rule, family, amounts):
    """What there is along the blocks of the next level, from each standing, if amounts tell it of a level.

    For each letter and standing there is a list, and the lists of the letters of a block are added up; the
    family is that of the amounts' level.
    """
    return [[added_along(family, amounts, block, q) for q in range(len(family[0]))] for block in rule]


def added_along(family, amounts, word, standing):
    """What the blocks of the letters of a word have together, begun in the standing."""
    total = [0 for _ in amounts[0][0]]
    for b in word:
        total = [one + more for one, more in zip(total, amounts[b][standing])]
        standing = family[b][standing]
    return total


def counts_among(rule, machine, rows, pair, many):
    """Pairs of each answer among the first many ones, which there are, and how often it comes there."""
    letter, standing = pair
    level = len(rows) - 1
    families = families_to(rule, machine, level)
    levels = [letter_amounts(machine)]
    for family in families[:level]:
        levels.append(next_amounts(rule, family, levels[-1]))
    if many == rows[level][letter]:
        passed = [(level, letter, standing)]
    else:
        passed = way_to(rule, families, rows, pair, many)[0]
    told = [levels[below][b][q] for below, b, q in passed]
    totals = [(answer, sum([row[k] for row in told])) for k, answer in enumerate(answers_in(machine))]
    return tuple([(answer, total) for answer, total in totals if total > 0])


def letter_firsts(machine, answer):
    """For each letter and standing 0 if the answer is given to it, -1 if not."""
    return [[0 if standing[a][1] == answer else -1 for standing in machine] for a in range(len(machine[0]))]


def next_firsts(rule, family, lengths, firsts):
    """The first places of an answer in the blocks of the next level, from each standing, -1 without one.

    The family, the lengths of blocks and the first places within them are those of the level below.
    """
    return [[first_along(family, lengths, firsts, block, q) for q in range(len(family[0]))] for block in rule]


def first_along(family, lengths, firsts, word, standing):
    """The first place of an answer along the blocks of the letters of a word, begun in the standing, or -1."""
    passed = 0
    for b in word:
        if firsts[b][standing] >= 0:
            return passed + firsts[b][standing]
        passed = passed + lengths[b]
        standing = family[b][standing]
    return -1
