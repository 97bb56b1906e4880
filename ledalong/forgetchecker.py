"""Papers on the memory of a machine along a rule, judged."""

from ledalong.families import family_at
from ledalong.helper import joined, map_in, must_hold, rank_in
from ledalong.kinds import is_long, is_number
from ledalong.worldmaps import need_growing
from ledalong.worlds import pairs_in, stands_in


def lets_forget(rule, machine, thing):
    """The memory of which the paper tells."""
    need_growing(rule, machine)
    must_hold(is_long(thing, 3) and thing[0] == "rank", "shape", -1)
    _, level, word = thing
    must_hold(is_number(level), "level", -1)
    must_hold(stands_in(rule, word), "word", -1)
    rank = rank_in(map_in(machine, word))
    family = family_at(rule, machine, level)
    for a, lead in enumerate(family):
        must_hold(rank_in(lead) == rank, "block", a)
    for a, b in pairs_in(rule):
        must_hold(rank_in(joined(family[a], family[b])) == rank, "pair", (a, b))
    return rank
