"""The answers along the rows of an even rule: their shares, and readers that show them."""

from math import gcd

from ledalong.answercounts import answers_in, letter_amounts, next_amounts
from ledalong.families import families_in, next_family, turned_back
from ledalong.helper import firsts_of, letter_maps, need, reached
from ledalong.kinds import fits, is_below
from ledalong.pairrules import pair_block, pairs_of
from ledalong.readers import is_rowed, reader_by
from ledalong.shares import is_even_growing, share_told, weights_by


def answer_shares(rule, machine):
    """The set of all tuples that there are of pairs of an answer and its share."""
    need(is_even_growing(rule), "rule")
    need(fits(rule, machine), "machine")
    families, start = families_in(rule, machine)
    amounts = letter_amounts(machine)
    for family in families[:start]:
        amounts = next_amounts(rule, family, amounts)
    told = [amounts[a][q] for a in range(len(rule)) for q in range(len(machine))]
    counts = pair_counts(rule, families[start:])
    lots = [lot for whole in least_closed(counts) for lot in lots_in_turn(counts, whole)]
    return tuple(sorted({answers_by(answers_in(machine), told, lot) for lot in lots}))


def answer_reader(rule, machine, standing):
    """The least reader whose row is what the machine answers along the row that grows from 0."""
    need(is_rowed(rule), "rule")
    need(fits(rule, machine), "machine")
    need(is_below(standing, len(machine)), "standing")
    labels, rows, start = labels_in(rule, machine)
    ups = [turned_back(level + 1, start, len(labels)) for level in range(len(labels))]
    told = answers_by_pair(rule, machine)
    # A state has for each level the label of the letter and of the standing in which its block of this level is
    # begun, if so many digits are still to come. So states that are not the same show unlike answers some day.
    return reader_by(len(rule[0]), tuple([row[standing] for row in labels]),
                     lambda state, digit: tuple([row[state[up]][digit] for row, up in zip(rows, ups)]),
                     lambda state: told[state[0]])


def labels_in(rule, machine):
    """Labels of all levels ahead of the first one at which they come round, and the index of that one.

    The labels of a level tell for each letter of the rule of pairs the first one whose block of this level gives
    the same answers. Of each level there are also the rows that tell, for each such letter, the labels of the
    parts, of this level, of its block of the next one.
    """
    told = answers_by_pair(rule, machine)
    state = (letter_maps(machine), firsts_of(told))
    levels = {}
    rows = []
    while state not in levels:
        levels[state] = len(levels)
        family, labels = state
        rows.append([tuple([labels[k] for k in pair_block(family, rule[a], q)]) for a, q in pairs_of(rule, machine)])
        state = (next_family(rule, family), firsts_of(rows[-1]))
    return [labels for _, labels in levels], rows, levels[state]


def answers_by_pair(rule, machine):
    """For each letter of the rule of pairs the answer to the letter in the standing."""
    return [machine[q][a][1] for a, q in pairs_of(rule, machine)]


def pair_counts(rule, families):
    """For each letter of the rule of pairs how often each one stands in its block.

    The families are those of the levels from start on that come again.
    """
    many = len(rule) * len(families[0][0])
    amounts = [[[1 if k == a * len(families[0][0]) + q else 0 for k in range(many)] for q in range(len(families[0][0]))]
               for a in range(len(rule))]
    for family in families:
        amounts = next_amounts(rule, family, amounts)
    return [row for rows in amounts for row in rows]


def words_from(counts, letter):
    """All letters to which blocks lead from one, each with its way: as many letters as there are steps."""
    return reached(len(counts), letter, lambda one, other: other if counts[one][other] > 0 else one)


def least_closed(counts):
    """The least closed lots of letters."""
    lots = [tuple(sorted(list(words_from(counts, letter)))) for letter in range(len(counts))]
    return sorted({lot for lot in lots if all([lots[letter] == lot for letter in lot])})


def lots_in_turn(counts, whole):
    """The lots, as many as can be, into which a least closed one falls, each with the weights of its letters.

    Each is told as a list of pairs of a letter and its weight.
    """
    steps = {letter: len(word) for letter, word in words_from(counts, whole[0]).items()}
    turn = 0
    for one in whole:
        for other in whole:
            if counts[one][other] > 0:
                turn = gcd(turn, steps[one] + 1 - steps[other])
    weights = weights_by([[counts[one][other] for other in whole] for one in whole])
    return [[(letter, weight) for letter, weight in zip(whole, weights) if steps[letter] % turn == phase]
            for phase in range(turn)]


def answers_by(answers, told, lot):
    """The pairs of an answer and its share, if it is not 0, by a lot; told are the amounts for each letter of it."""
    totals = [sum([weight * told[letter][k] for letter, weight in lot]) for k in range(len(answers))]
    whole = sum(totals)
    return tuple([(answer, share_told(total, whole)) for answer, total in zip(answers, totals) if total > 0])
