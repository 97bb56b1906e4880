"""Papers on how families come round."""

from ledalong.families import families_in, need_fitting, next_family
from ledalong.helper import letter_maps, must_hold
from ledalong.kinds import is_full, is_long, is_number, is_same


def family_paper(rule, machine):
    """The paper that lets_family accepts."""
    need_fitting(rule, machine)
    families, start = families_in(rule, machine)
    return "family", tuple(families), start


def lets_family(rule, machine, thing):
    """The start and the period of the families of which the paper tells."""
    need_fitting(rule, machine)
    must_hold(is_long(thing, 3) and thing[0] == "family" and is_full(thing[1]) and is_number(thing[2]), "shape", -1)
    _, families, start = thing
    family = letter_maps(machine)
    levels = {}
    for k, told in enumerate(families):
        must_hold(is_same(told, family), "family", k)
        must_hold(family not in levels, "twice", k)
        levels[family] = k
        family = next_family(rule, family)
    must_hold(levels.get(family) == start, "start", -1)
    return start, len(families) - start
