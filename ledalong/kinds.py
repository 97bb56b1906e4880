"""What a value is: an integer, a number, a word, a rule, a machine, a standing, a reader.

A fault is the pair (word, at) of the first entry of a judge's list that applies to a value,
or None. Kinds and judges ask for the same faults, so that they cannot disagree.
"""


def is_integer(thing):
    """Whether any value is an int that is not a bool."""
    return isinstance(thing, int) and not isinstance(thing, bool)


def is_number(thing):
    """Whether any value is an integer that is at least 0."""
    return is_integer(thing) and thing >= 0


def is_word(rule, thing):
    """Whether any value is a tuple of letters of the rule, possibly ()."""
    return is_rule(rule) and are_below(thing, len(rule))


def is_rule(thing):
    """Whether any value is a rule."""
    return rule_fault(thing) is None


def is_machine(thing):
    """Whether any value is a machine."""
    return machine_fault(thing) is None


def is_standing(machine, thing):
    """Whether any value is the index of a standing of the machine."""
    return is_machine(machine) and is_below(thing, len(machine))


def is_reader(thing):
    """Whether any value is a reader."""
    return reader_fault(thing) is None


def is_below(thing, many):
    """Whether any value is a number below many."""
    return is_number(thing) and thing < many


def are_below(thing, many):
    """Whether any value is a tuple, possibly (), of numbers below many."""
    return isinstance(thing, tuple) and all([is_below(part, many) for part in thing])


def is_full(thing):
    """Whether any value is a nonempty tuple."""
    return isinstance(thing, tuple) and len(thing) > 0


def is_long(thing, length):
    """Whether any value is a tuple with so many elements."""
    return isinstance(thing, tuple) and len(thing) == length


def is_index_set(thing, many):
    """Whether any value is an ascending tuple, without duplicates, of numbers below many."""
    return are_below(thing, many) and list(thing) == sorted(set(thing))


def is_order(thing, many):
    """Whether any value is a tuple of all numbers below many, each once."""
    return is_long(thing, many) and are_below(thing, many) and len(set(thing)) == many


def is_map(thing):
    """Whether any value is a nonempty tuple of numbers below how many they are."""
    return is_full(thing) and are_below(thing, len(thing))


def is_same(thing, told):
    """Whether any value is this integer, or this tuple of such, True being no 1 within it."""
    if isinstance(told, tuple):
        return is_long(thing, len(told)) and all([is_same(part, other) for part, other in zip(thing, told)])
    return is_integer(thing) and thing == told


def fits(rule, thing):
    """Whether any value is a machine with as many letters as the rule."""
    return is_machine(thing) and len(thing[0]) == len(rule)


def is_even(rule):
    """Whether all blocks of a rule are equally long."""
    return len({len(block) for block in rule}) == 1


def rule_fault(thing):
    """The first fault of any value as a rule, or None."""
    if not is_full(thing):
        return "shape", -1
    for a, block in enumerate(thing):
        if not is_full(block):
            return "block", a
        for j, letter in enumerate(block):
            if not is_below(letter, len(thing)):
                return "letter", (a, j)
    return None


def machine_fault(thing):
    """The first fault of any value as a machine, or None."""
    if not is_full(thing):
        return "shape", -1
    for q, standing in enumerate(thing):
        if not is_full(standing) or len(standing) != len(thing[0]):
            return "standing", q
        for a, pair in enumerate(standing):
            if not is_long(pair, 2):
                return "pair", (q, a)
            if not is_below(pair[0], len(thing)):
                return "next", (q, a)
            if not is_number(pair[1]):
                return "answer", (q, a)
    return None


def reader_fault(thing):
    """The first fault of any value as a reader, or None."""
    fault = moves_fault(thing)
    if fault is not None:
        return fault
    _, moves, shows = thing
    if moves[0][0] != 0:
        return "begin", -1
    return shows_fault(moves, shows)


def moves_fault(thing):
    """The first fault of any value as a reader ahead of what hangs on where it begins and what it shows, or None."""
    if not is_long(thing, 3):
        return "shape", -1
    base, moves, _ = thing
    if not (is_integer(base) and base >= 2):
        return "base", -1
    if not is_full(moves):
        return "moves", -1
    for k, place in enumerate(moves):
        if not is_long(place, base):
            return "place", k
        for digit, goal in enumerate(place):
            if not is_below(goal, len(moves)):
                return "move", (k, digit)
    return None


def shows_fault(moves, shows):
    """The first fault of any value as what a reader shows at its places, or None."""
    if not is_long(shows, len(moves)):
        return "shows", -1
    for k, show in enumerate(shows):
        if not is_number(show):
            return "show", k
    return None
