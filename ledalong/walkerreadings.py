"""Lines read: events and logs."""

from ledalong.errors import InvalidText
from ledalong.helper import need
from ledalong.kinds import fits
from ledalong.readings import machine_read, must_have, must_stand, number_in, rule_read, standings_in
from ledalong.walkerevents import is_name
from ledalong.worlds import is_growing


def read_event(text):
    """The event that the text writes."""
    need(isinstance(text, str), "text")
    fields = text.split(" ")
    word = fields[0]
    if word == "swap":
        return word, standings_in(fields)
    if word == "mark":
        must_have(fields, 1)
        must_stand(is_name(fields[1]), 1)
        must_end(fields, 2)
        return word, fields[1]
    must_stand(word in ("go", "jump", "hear"), 0)
    if word == "hear":
        return word, numbers_to(fields, max(len(fields), 2))
    return word, *numbers_to(fields, 2 if word == "go" else 3)


def read_log(lines):
    """The log that the lines write."""
    need(isinstance(lines, list) and all([isinstance(line, str) and "\n" not in line for line in lines]), "lines")
    rule = line_read(lines, 0, rule_read)
    line_must_stand(is_growing(rule), 0)
    machine = line_read(lines, 1, machine_read)
    line_must_stand(fits(rule, machine), 1)
    return (("walker", rule, machine), *[line_read(lines, at, read_event) for at in range(2, len(lines))])


def numbers_to(fields, many):
    """The numbers behind the first word, there having to be so many words in all."""
    numbers = []
    for at in range(1, many):
        must_have(fields, at)
        number = number_in(fields[at])
        must_stand(number >= 0, at)
        numbers.append(number)
    must_end(fields, many)
    return tuple(numbers)


def must_end(fields, many):
    """Refuse a word behind so many ones."""
    must_stand(len(fields) == many, many)


def line_read(lines, at, reading):
    """What the line with this index writes, by the reading of its kind."""
    if len(lines) <= at:
        raise InvalidText(at, 0)
    try:
        return reading(lines[at])
    except InvalidText as error:
        raise InvalidText(at, error.field) from None


def line_must_stand(fine, at):
    """Refuse the word 1 of a line, unless what the line writes is fine."""
    if not fine:
        raise InvalidText(at, 1)
