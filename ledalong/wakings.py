"""What a word of a rule tells of the standing behind it, and of the waking."""

from ledalong.forgetting import memory_in
from ledalong.helper import goals_in, led, map_in, need, rank_in
from ledalong.kinds import are_below
from ledalong.worldmaps import need_growing
from ledalong.worlds import stands_in


def settles(rule, machine, word):
    """Whether the word settles the machine."""
    need_world_word(rule, machine, word)
    return rank_in(map_in(machine, word)) == memory_in(rule, machine)


def behind(rule, machine, word):
    """The set of the standings in which it may be behind the word."""
    need_world_word(rule, machine, word)
    return all_goals(machine, word)


def classes_by(rule, machine, word):
    """The set of the sets of all wakings that the word leads to one standing."""
    need_world_word(rule, machine, word)
    lead = map_in(machine, word)
    return tuple(sorted([tuple([q for q in range(len(lead)) if lead[q] == goal]) for goal in sorted(set(lead))]))


def standing_told(rule, machine, word):
    """The standing behind the word, if there is one alone, or None."""
    need_world_word(rule, machine, word)
    goals = all_goals(machine, word)
    return goals[0] if len(goals) == 1 else None


def carried_on(rule, machine, word, more):
    """Pairs of each standing behind the word and the one to which more letters lead from it."""
    need_world_word(rule, machine, word)
    need(are_below(more, len(rule)) and stands_in(rule, word + more), "more")
    return tuple([(standing, led(machine, standing, more)[0]) for standing in all_goals(machine, word)])


def need_world_word(rule, machine, word):
    """Refuse what is no rule that grows, no machine that fits it, no word of the rule."""
    need_growing(rule, machine)
    need(stands_in(rule, word), "word")


def all_goals(machine, word):
    """The set of the standings to which the word leads from any."""
    return goals_in(machine, tuple(range(len(machine))), word)
