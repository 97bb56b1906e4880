"""Rules, machines and readers judged: what they are, or the first thing wrong with them."""

from ledalong.errors import InvalidPaper
from ledalong.kinds import is_even, machine_fault, reader_fault, rule_fault


def refuse(fault):
    """Raise the fault, if there is one."""
    if fault is not None:
        raise InvalidPaper(fault[0], fault[1])


def lets_rule(thing):
    """How many letters a rule has, and whether it is even."""
    refuse(rule_fault(thing))
    return len(thing), is_even(thing)


def lets_machine(thing):
    """How many standings and how many letters a machine has."""
    refuse(machine_fault(thing))
    return len(thing), len(thing[0])


def lets_reader(thing):
    """The base of a reader, and how many places it has."""
    refuse(reader_fault(thing))
    return thing[0], len(thing[1])
