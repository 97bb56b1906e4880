"""Machines that are changed: standings, answers and letters, and machines led by machines."""

from ledalong.helper import led, need
from ledalong.kinds import are_below, is_full, is_index_set, is_long, is_machine, is_number, is_order


def standings_renamed(machine, order):
    """The machine whose standing k is the one with the index order[k]."""
    need(is_machine(machine), "machine")
    need(is_order(order, len(machine)), "order")
    return with_standings(machine, order)


def cut_to(machine, standings):
    """The machine of these standings alone."""
    need(is_machine(machine), "machine")
    need(is_closed(machine, standings), "standings")
    return with_standings(machine, standings)


def with_standings(machine, kept):
    """The machine whose standing k is the one with the index kept[k]; no letter leaves these."""
    return tuple([tuple([(kept.index(goal), answer) for goal, answer in machine[q]]) for q in kept])


def is_closed(machine, thing):
    """Whether any value is a nonempty set of standings that no letter leaves."""
    if not (is_full(thing) and is_index_set(thing, len(machine))):
        return False
    return all([goal in thing for q in thing for goal, _ in machine[q]])


def answers_renamed(machine, answers):
    """The machine that answers new in the place of old, for each of the pairs (old, new)."""
    need(is_machine(machine), "machine")
    need(is_renaming(answers), "answers")
    told = dict(list(answers))
    return tuple([tuple([(goal, told.get(old, old)) for goal, old in standing]) for standing in machine])


def is_renaming(thing):
    """Whether any value is a tuple of pairs of numbers, no first one twice."""
    if not isinstance(thing, tuple):
        return False
    for pair in thing:
        if not (is_long(pair, 2) and is_number(pair[0]) and is_number(pair[1])):
            return False
    return len({pair[0] for pair in thing}) == len(thing)


def letters_by(machine, words):
    """The machine with a letter for each word, which answers what is answered to its last one."""
    need(is_machine(machine), "machine")
    need(are_words(words, len(machine[0])), "words")
    return tuple([tuple([led_to_last(machine, q, word) for word in words]) for q in range(len(machine))])


def are_words(thing, letters):
    """Whether any value is a nonempty tuple of nonempty words of so many letters."""
    return is_full(thing) and all([is_full(word) and are_below(word, letters) for word in thing])


def led_to_last(machine, standing, word):
    """The standing to which the word leads, and the answer to its last letter."""
    goal, answers = led(machine, standing, word)
    return goal, answers[-1]


def led_behind(machine, other):
    """The machine that leads the other one by its answers, and answers what this one does."""
    need(is_machine(machine), "machine")
    need(is_machine(other) and hears(other, machine), "other")
    return tuple([standing_behind(own, beside, len(other)) for own in machine for beside in other])


def hears(other, machine):
    """Whether each answer of the machine is a letter of the other one."""
    return all([answer < len(other[0]) for standing in machine for _, answer in standing])


def standing_behind(own, beside, many):
    """The standing made of one of the first machine and one of the many of the other one."""
    return tuple([(goal * many + beside[answer][0], beside[answer][1]) for goal, answer in own])
