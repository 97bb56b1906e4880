"""Where words lead, what is answered to them, and their maps."""

from math import lcm

from ledalong.helper import joined, led, map_in, need, rank_in
from ledalong.kinds import are_below, is_below, is_long, is_machine, is_map


def leads(machine, standing, word):
    """The standing to which the word leads from the standing."""
    need_way(machine, standing, word)
    return led(machine, standing, word)[0]


def answers_to(machine, standing, word):
    """The answers that the word gives from the standing."""
    need_way(machine, standing, word)
    return led(machine, standing, word)[1]


def map_of(machine, word):
    """The map of the word."""
    need_word(machine, word)
    return map_in(machine, word)


def rank_of(machine, word):
    """The rank of the map of the word."""
    need_word(machine, word)
    return rank_in(map_in(machine, word))


def joined_map(first, second):
    """The map of a word with the first map and, behind it, one with the second one."""
    need(is_map(first), "first")
    need(is_map(second) and is_long(second, len(first)), "second")
    return joined(first, second)


def map_round(first):
    """The least start and period of the maps of 0, 1, 2 .. words with the map, one behind the other."""
    need(is_map(first), "first")
    start = 0
    period = 1
    # The maps come round as soon as each single way does, and with a period of all of them.
    for standing in range(len(first)):
        ahead, turn = way_round(first, standing)
        start = max(start, ahead)
        period = lcm(period, turn)
    return start, period


def way_round(lead, standing):
    """After how many steps of the map a standing comes again, and how many it takes from there."""
    way = [standing]
    while lead[way[-1]] not in way:
        way.append(lead[way[-1]])
    ahead = way.index(lead[way[-1]])
    return ahead, len(way) - ahead


def need_way(machine, standing, word):
    """Refuse what is no machine, no standing of it, no word of its letters."""
    need(is_machine(machine), "machine")
    need(is_below(standing, len(machine)), "standing")
    need(are_below(word, len(machine[0])), "word")


def need_word(machine, word):
    """Refuse what is no machine, no word of its letters."""
    need(is_machine(machine), "machine")
    need(are_below(word, len(machine[0])), "word")
