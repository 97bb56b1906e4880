"""Rules, words, machines and readers written as lines."""

from ledalong.helper import need
from ledalong.kinds import is_machine, is_number, is_reader, is_rule


def rule_line(rule):
    """The line of a rule: a word for each block."""
    need(is_rule(rule), "rule")
    return " ".join(["rule", *[commas(block) for block in rule]])


def word_line(word):
    """The line of any tuple of numbers."""
    need(isinstance(word, tuple) and all([is_number(letter) for letter in word]), "word")
    return " ".join(["word", *[str(letter) for letter in word]])


def machine_line(machine):
    """The line of a machine: a word for each standing."""
    need(is_machine(machine), "machine")
    return " ".join(["machine", *[standing_part(standing) for standing in machine]])


def reader_line(reader):
    """The line of a reader: its base, and a word for each place."""
    need(is_reader(reader), "reader")
    base, moves, shows = reader
    places = [f"{commas(place)}:{show}" for place, show in zip(moves, shows)]
    return " ".join(["reader", str(base), *places])


def standing_part(standing):
    """The word for a standing."""
    return ",".join([f"{goal}:{answer}" for goal, answer in standing])


def commas(numbers):
    """The numbers with commas between."""
    return ",".join([str(number) for number in numbers])
