"""Which machine may replace which one, whatever the rule."""

from ledalong.helper import least_word_to, need
from ledalong.kinds import fits, is_machine
from ledalong.likeness import marks_in


def are_alike(one, other):
    """Whether each standing of either machine is alike to one of the other one."""
    need_both(one, other)
    own, beside = marks_of_both(one, other)
    return set(own) == set(beside)


def may_replace(one, other):
    """Whether one may replace other, whatever the rule."""
    need_both(one, other)
    return first_unmet(one, other) is None


def unmet(one, other):
    """The least word, with the least standing of one, to which none of other answers alike; or None."""
    need_both(one, other)
    return first_unmet(one, other)


def need_both(one, other):
    """Refuse what is no machine, and no other one with as many letters."""
    need(is_machine(one), "one")
    # A standing has a pair for each letter, as a rule has a block.
    need(fits(one[0], other), "other")


def both_beside(one, other):
    """The machine with the standings of one and, behind them, those of other."""
    return one + tuple([tuple([(goal + len(one), answer) for goal, answer in standing]) for standing in other])


def marks_of_both(one, other):
    """A mark for each standing of one, and for each of other: the same for those that are alike."""
    marks = marks_in(both_beside(one, other))
    return tuple(marks[:len(one)]), tuple(marks[len(one):])


def first_unmet(one, other):
    """What unmet tells of two machines with as many letters."""
    words = [word_unmet(one, other, standing) for standing in range(len(one))]
    found = [(len(word), word, standing) for standing, word in enumerate(words) if word is not None]
    if len(found) == 0:
        return None
    _, word, standing = min(found)
    return word, standing


def word_unmet(one, other, standing):
    """The least word to which no standing of other gives the answers of this one of one, or None."""
    return least_word_to(len(one[0]), (standing, tuple(range(len(other)))),
                         lambda state, a: followed(one, other, state, a), lambda goal: goal[1] == ())


def followed(one, other, state, a):
    """Where a letter leads a standing of one, and those of a set of other that answer as it does."""
    standing, lot = state
    goal, answer = one[standing][a]
    return goal, tuple(sorted({other[q][a][0] for q in lot if other[q][a][1] == answer}))
