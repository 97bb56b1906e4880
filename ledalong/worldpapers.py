"""Papers on whether one machine may replace another one along a rule."""

from ledalong.errors import InvalidPaper
from ledalong.helper import led, must_hold, need
from ledalong.kinds import are_below, is_below, is_long, is_number, is_same
from ledalong.worlds import stands_in
from ledalong.worldstands import failing_in, first_stand, need_two, next_stand, states_of


def stand_paper(rule, one, other, *, letters=0):
    """A paper that lets_stand accepts."""
    need_two(rule, one, other)
    need(is_number(letters), "letters")
    told = failing_in(rule, one, other, letters)
    if told is not None:
        return ("fails", *told)
    levels = {}
    family = first_stand(one, other, letters)
    while family not in levels:
        levels[family] = len(levels)
        family = next_stand(rule, family)
    states = states_of(one, other, letters)
    return "levels", levels[family], tuple([told_stand(states, part) for part in [*list(levels), family]])


def lets_stand(rule, one, other, thing, *, letters=0):
    """True for a paper that one may replace other after so many letters, False for one that it may not."""
    need_two(rule, one, other)
    need(is_number(letters), "letters")
    if is_long(thing, 4) and thing[0] == "fails":
        judge_fails(rule, one, other, thing, letters)
        return False
    if is_long(thing, 3) and thing[0] == "levels" and isinstance(thing[2], tuple):
        judge_levels(rule, one, other, thing, letters)
        return True
    raise InvalidPaper("shape", -1)


def told_stand(states, family):
    """A stand family with its states told in full."""
    leads, ends = family
    return (tuple([told_row(states, lead) for lead in leads]),
            tuple([tuple([told_row(states, row) for row in rows]) for rows in ends]))


def told_row(states, row):
    """States told in full by their indexes."""
    return tuple([states[k] for k in row])


def judge_fails(rule, one, other, paper, letters):
    """Refuse what does not show that one may not replace other."""
    _, waking, v, w = paper
    must_hold(is_below(waking, len(one)), "waking", -1)
    must_hold(are_below(v, len(rule)) and len(v) == letters, "word", -1)
    must_hold(are_below(w, len(rule)) and stands_in(rule, v + w), "word", -1)
    told = led(one, led(one, waking, v)[0], w)[1]
    must_hold(all([led(other, t, w)[1] != told for t in range(len(other))]), "answers", -1)


def judge_levels(rule, one, other, paper, letters):
    """Refuse what is not the stand families as they come round, or has a row with nothing that is possible."""
    _, start, families = paper
    must_hold(is_below(start, len(families) - 1), "start", -1)
    states = states_of(one, other, letters)
    family = first_stand(one, other, letters)
    for n, told in enumerate(families):
        must_hold(is_same(told, told_stand(states, family)), "family", n)
        family = next_stand(rule, family)
    must_hold(families[-1] == families[start], "round", -1)
    for n, told in enumerate(families):
        for a, rows in enumerate(told[1]):
            must_hold(all([all([m != 0 for _, m in row]) for row in rows]), "empty", (n, a))
