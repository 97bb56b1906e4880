"""What a machine forgets of its waking along a rule, and behind how many letters."""

from ledalong.families import families_in
from ledalong.helper import rank_in
from ledalong.worldmaps import NEAR, least_mapped, need_growing, words_with_maps


def memory_of(rule, machine):
    """The least rank of a map of a word of the rule."""
    need_growing(rule, machine)
    return memory_in(rule, machine)


def forgets(rule, machine):
    """Whether the memory is 1."""
    need_growing(rule, machine)
    return memory_in(rule, machine) == 1


def settling_word(rule, machine):
    """The least word of the rule that settles the machine."""
    need_growing(rule, machine)
    return settling_in(rule, machine)


def delay_of(rule, machine):
    """The least number of letters such that all words of the rule with so many settle the machine."""
    need_growing(rule, machine)
    return settled_in(rule, machine)[0]


def sets_behind(rule, machine):
    """The set of the sets of standings behind words of the rule that settle the machine."""
    need_growing(rule, machine)
    return settled_in(rule, machine)[1]


def memory_in(rule, machine):
    """The memory of a machine along a rule.

    From the start on the families come again for ever, and blocks that are great enough have a word of
    the least rank within: so all of these have this rank.
    """
    families, start = families_in(rule, machine)
    return rank_in(families[start][0])


def settling_in(rule, machine):
    """The least word that settles the machine."""
    memory = memory_in(rule, machine)
    return least_mapped(rule, machine, lambda lead: rank_in(lead) == memory)


def settled_in(rule, machine):
    """The delay, and the set of the sets of standings behind words that settle the machine.

    Such a word with fewer letters than the delay has longer ones that end with it, and of one with more
    the last letters settle, too: the standings behind are the same. So words as long as the delay tell
    all of these sets.
    """
    memory = memory_in(rule, machine)
    most = NEAR
    while True:
        for delay, row in enumerate(words_with_maps(rule, machine, most)[1]):
            sets = sorted({tuple(sorted(set(lead))) for lead in row})
            if all([len(standings) == memory for standings in sets]):
                return delay, tuple(sets)
        most = 2 * most
