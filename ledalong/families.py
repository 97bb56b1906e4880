"""Families: the maps of all blocks of a level, as they come round."""

from ledalong.helper import letter_maps, need, word_map
from ledalong.kinds import are_below, fits, is_below, is_long, is_number, is_rule


def family_of(rule, machine, level):
    """The family of the level."""
    need_fitting(rule, machine)
    need(is_number(level), "level")
    return family_at(rule, machine, level)


def block_map(rule, machine, letter, level):
    """The map of the block of the letter of this level."""
    need_fitting(rule, machine)
    need(is_below(letter, len(rule)), "letter")
    need(is_number(level), "level")
    return family_at(rule, machine, level)[letter]


def start_of(rule, machine):
    """The least level from which on families come again."""
    need_fitting(rule, machine)
    return families_in(rule, machine)[1]


def period_of(rule, machine):
    """Behind how many levels families come again."""
    need_fitting(rule, machine)
    families, start = families_in(rule, machine)
    return len(families) - start


def level_of_family(rule, machine, family):
    """The least level that has this family, or None."""
    need_fitting(rule, machine)
    need(is_long(family, len(rule)) and all([is_lead(machine, part) for part in family]), "family")
    families = families_in(rule, machine)[0]
    return families.index(family) if family in families else None


def is_lead(machine, thing):
    """Whether any value is a tuple with the index of a standing for each standing."""
    return is_long(thing, len(machine)) and are_below(thing, len(machine))


def need_fitting(rule, machine):
    """Refuse what is no rule, no machine that fits it."""
    need(is_rule(rule), "rule")
    need(fits(rule, machine), "machine")


def next_family(rule, family):
    """The family of the level behind that of a family."""
    return tuple([word_map(family, block) for block in rule])


def families_in(rule, machine):
    """The families ahead of the first one that comes again, and the level of the one that it is."""
    levels = {}
    family = letter_maps(machine)
    while family not in levels:
        levels[family] = len(levels)
        family = next_family(rule, family)
    return list(levels), levels[family]


def family_at(rule, machine, level):
    """The family of a level, however great; of a low one without looking at greater ones."""
    levels = {}
    family = letter_maps(machine)
    while family not in levels:
        if len(levels) == level:
            return family
        levels[family] = len(levels)
        family = next_family(rule, family)
    return list(levels)[turned_back(level, levels[family], len(levels))]


def turned_back(level, start, many):
    """The level, below how many ones there are ahead of the first that comes again, with the family of a level."""
    return level if level < start else start + (level - start) % (many - start)
