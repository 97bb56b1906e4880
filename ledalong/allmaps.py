"""The maps of all words of a machine's letters."""

from ledalong.helper import goals_in, joined, least_word_to, letter_maps, need, reached
from ledalong.kinds import is_long, is_machine, is_map


def all_maps(machine):
    """The set of the maps of all words."""
    need(is_machine(machine), "machine")
    return maps_of_all(machine)


def least_word_for(machine, lead):
    """The least word with this map, or None."""
    need(is_machine(machine), "machine")
    need(is_map(lead) and is_long(lead, len(machine)), "lead")
    maps = letter_maps(machine)
    return least_word_to(len(maps), still_map(machine), lambda one, a: joined(one, maps[a]), lambda goal: goal == lead)


def least_settling(machine):
    """The least word of the least rank that any word has."""
    need(is_machine(machine), "machine")
    maps = letter_maps(machine)
    # The standings to which a word leads are enough to tell its rank, and are fewer than maps.
    words = reached(len(maps), still_map(machine), lambda lot, a: goals_in(machine, lot, (a,)))
    least = min([len(lot) for lot in words])
    return [word for lot, word in words.items() if len(lot) == least][0]


def maps_of_all(machine):
    """The set of the maps of all words of a machine's letters."""
    maps = letter_maps(machine)
    words = reached(len(maps), still_map(machine), lambda lead, a: joined(lead, maps[a]))
    return tuple(sorted(list(words)))


def still_map(machine):
    """The map of (), and the set of all standings, too."""
    return tuple(range(len(machine)))
