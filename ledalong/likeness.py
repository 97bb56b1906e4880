"""Standings that are alike, machines without such ones, and sets of standings that no letter leaves."""

from ledalong.changes import is_closed
from ledalong.helper import firsts_of, least_word_to, need, reached
from ledalong.kinds import is_below, is_index_set, is_machine


def alike_standings(machine):
    """All classes of standings that are alike, by their first standings."""
    need(is_machine(machine), "machine")
    marks = marks_in(machine)
    return tuple([tuple([q for q in range(len(machine)) if marks[q] == first]) for first in sorted(set(marks))])


def merged(machine):
    """The machine that has a standing for each class."""
    need(is_machine(machine), "machine")
    return merged_in(machine)


def parting(machine, one, other):
    """The least word to which two standings give unlike answers, or None."""
    need(is_machine(machine), "machine")
    need(is_below(one, len(machine)), "one")
    need(is_below(other, len(machine)), "other")
    return parting_in(machine, one, other)


def homing_word(machine):
    """The least word behind which the answers tell the class."""
    need(is_machine(machine), "machine")
    single = merged_in(machine)
    begin = larger_sets([list(range(len(single)))])
    return least_word_to(len(single[0]), begin, lambda lots, a: lots_behind(single, lots, a), lambda goal: goal == ())


def is_closed_set(machine, standings):
    """Whether each letter leads from each of these standings to one of them."""
    need(is_machine(machine), "machine")
    need(is_index_set(standings, len(machine)), "standings")
    return standings == () or is_closed(machine, standings)


def closed_sets(machine):
    """The set of the closed sets, other than (), with no other one but () within."""
    need(is_machine(machine), "machine")
    lots = [closed_from(machine, q) for q in range(len(machine))]
    return tuple(sorted({lot for lot in lots if all([lots[q] == lot for q in lot])}))


def marks_in(machine):
    """For each standing the first one that is alike to it.

    After n turns standings have the same mark if they answer alike to all words with n letters.
    """
    marks = [0 for _ in machine]
    many = 0
    while len(set(marks)) > many:
        many = len(set(marks))
        told = [tuple([(marks[goal], answer) for goal, answer in standing]) for standing in machine]
        marks = firsts_of(told)
    return marks


def merged_in(machine):
    """The machine that has a standing for each class of a machine."""
    marks = marks_in(machine)
    firsts = sorted(set(marks))
    return tuple([tuple([(firsts.index(marks[goal]), answer) for goal, answer in machine[q]]) for q in firsts])


def parting_in(machine, one, other):
    """The least word to which two standings of a machine give unlike answers, or None."""
    return least_word_to(len(machine[0]), (one, other), lambda pair, a: pair_behind(machine, pair, a),
                         lambda goal: goal == ())


def pair_behind(machine, pair, a):
    """The standings to which the letter leads a pair; () if their answers differ."""
    goal, answer = machine[pair[0]][a]
    late, told = machine[pair[1]][a]
    return (goal, late) if answer == told else ()


def lots_behind(machine, lots, a):
    """The sets, of two standings or more, in which the machine may be behind the letter and its answer.

    Each of lots is a set in which it may have been ahead; one standing alone is told, and stays so.
    """
    answers = sorted({standing[a][1] for standing in machine})
    return larger_sets([[machine[q][a][0] for q in lot if machine[q][a][1] == answer] for lot in lots
                        for answer in answers])


def larger_sets(lots):
    """The set of the sets of the standings of each lot, where these are two or more."""
    return tuple(sorted({tuple(sorted(set(lot))) for lot in lots if len(set(lot)) > 1}))


def closed_from(machine, standing):
    """The set of the standings to which words lead from one."""
    return tuple(sorted(list(reached(len(machine[0]), standing, lambda q, a: machine[q][a][0]))))
