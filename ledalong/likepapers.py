"""Papers on whether two machines are alike."""

from ledalong.errors import InvalidPaper
from ledalong.helper import led, must_hold
from ledalong.kinds import are_below, is_below, is_long, is_number
from ledalong.likeness import parting_in
from ledalong.replacing import both_beside, marks_of_both, need_both


def alike_paper(one, other):
    """A paper that lets_alike accepts."""
    need_both(one, other)
    own, beside = marks_of_both(one, other)
    lonely = [(0, q) for q, mark in enumerate(own) if mark not in beside]
    lonely = lonely + [(1, q) for q, mark in enumerate(beside) if mark not in own]
    if len(lonely) == 0:
        return "alike", own, beside
    side, standing = lonely[0]
    machine, opposite = (one, other) if side == 0 else (other, one)
    both = both_beside(machine, opposite)
    words = [parting_in(both, standing, len(machine) + q) for q in range(len(opposite))]
    return "unlike", side, standing, tuple(words)


def lets_alike(one, other, thing):
    """True for a paper that they are alike, False for one that they are not."""
    need_both(one, other)
    if is_long(thing, 3) and thing[0] == "alike" and isinstance(thing[1], tuple) and isinstance(thing[2], tuple):
        judge_marks((one, other), thing[1:])
        return True
    if is_long(thing, 4) and thing[0] == "unlike" and isinstance(thing[3], tuple):
        judge_words((one, other), thing[1], thing[2], thing[3])
        return False
    raise InvalidPaper("shape", -1)


def judge_marks(machines, marks):
    """Refuse marks that do not show that the two machines are alike."""
    for k in (0, 1):
        must_hold(is_long(marks[k], len(machines[k])) and all([is_number(mark) for mark in marks[k]]), "marks", k)
    places = [(side, q) for side in (0, 1) for q in range(len(machines[side]))]
    for side, q in places:
        must_hold(marks[side][q] in marks[1 - side], "lacks", (side, q))
    firsts = {}
    for side, q in places:
        first = firsts.setdefault(marks[side][q], (side, q))
        judge_standing(machines, marks, (side, q), first)


def judge_standing(machines, marks, place, first):
    """Refuse a place that differs, by a letter, from the first one with its mark."""
    side, q = place
    opposite, early = first
    for a, (goal, answer) in enumerate(machines[side][q]):
        late, told = machines[opposite][early][a]
        must_hold(answer == told, "answer", (side, q, a))
        must_hold(marks[side][goal] == marks[opposite][late], "next", (side, q, a))


def judge_words(machines, side, standing, words):
    """Refuse words that do not show that the standing is alike to none of the other machine."""
    must_hold(is_below(side, 2), "side", -1)
    machine, opposite = machines[side], machines[1 - side]
    must_hold(is_below(standing, len(machine)), "standing", -1)
    must_hold(len(words) == len(opposite), "many", -1)
    for k, word in enumerate(words):
        must_hold(are_below(word, len(machine[0])) and parts(machine, standing, opposite, k, word), "word", k)


def parts(machine, standing, opposite, other, word):
    """Whether a standing of one machine and one of the other give unlike answers to the word."""
    return led(machine, standing, word)[1] != led(opposite, other, word)[1]
