"""In which standings a machine may be, or may have woken."""

from ledalong.helper import goals_in, led, need
from ledalong.kinds import are_below, is_index_set, is_long, is_machine, is_number


def standings_behind(machine, standings, word):
    """The set of the standings to which the word leads from some of these."""
    need(is_machine(machine), "machine")
    need(is_index_set(standings, len(machine)), "standings")
    need(are_below(word, len(machine[0])), "word")
    return goals_in(machine, standings, word)


def woke_as(machine, word, answers):
    """The set of the standings from which the word gives just these answers."""
    need_heard(machine, word, answers)
    return woken(machine, word, answers)


def now_in(machine, word, answers):
    """The set of the standings to which the word leads where it gives just these answers."""
    need_heard(machine, word, answers)
    return goals_in(machine, woken(machine, word, answers), word)


def woken(machine, word, answers):
    """The set of the standings that answer so."""
    return tuple([q for q in range(len(machine)) if led(machine, q, word)[1] == answers])


def need_heard(machine, word, answers):
    """Refuse what is no machine, no word of its letters, no tuple of as many numbers."""
    need(is_machine(machine), "machine")
    need(are_below(word, len(machine[0])), "word")
    need(is_long(answers, len(word)) and all([is_number(answer) for answer in answers]), "answers")
