"""Lines read: rules, words, machines and readers.

While a line is read, -1 stands for what is no number, as all numbers are at least 0.
"""

from ledalong.errors import InvalidText
from ledalong.helper import need

MOST_DIGITS = 60


def rule_read(text):
    """The rule that the text writes."""
    fields = fields_of(text, "rule")
    must_have(fields, 1)
    blocks = []
    for at in range(1, len(fields)):
        block = numbers_in(fields[at])
        must_stand(all_below(block, len(fields) - 1), at)
        blocks.append(block)
    return tuple(blocks)


def word_read(text):
    """The tuple of numbers that the text writes."""
    fields = fields_of(text, "word")
    letters = []
    for at in range(1, len(fields)):
        letter = number_in(fields[at])
        must_stand(letter >= 0, at)
        letters.append(letter)
    return tuple(letters)


def machine_read(text):
    """The machine that the text writes."""
    return standings_in(fields_of(text, "machine"))


def standings_in(fields):
    """The machine whose standings are written in the words behind the first one."""
    must_have(fields, 1)
    standings = []
    for at in range(1, len(fields)):
        standing = tuple([pair_in(part) for part in fields[at].split(",")])
        must_stand(len(standing) == fields[1].count(",") + 1, at)
        must_stand(all_below([goal for goal, _ in standing], len(fields) - 1), at)
        must_stand(min([answer for _, answer in standing]) >= 0, at)
        standings.append(standing)
    return tuple(standings)


def reader_read(text):
    """The reader that the text writes."""
    fields = fields_of(text, "reader")
    must_have(fields, 1)
    base = number_in(fields[1])
    must_stand(base >= 2, 1)
    must_have(fields, 2)
    places = []
    for at in range(2, len(fields)):
        moves, show = place_in(fields[at])
        must_stand(len(moves) == base and all_below(moves, len(fields) - 2) and show >= 0, at)
        must_stand(at > 2 or moves[0] == 0, at)
        places.append((moves, show))
    return base, tuple([moves for moves, _ in places]), tuple([show for _, show in places])


def fields_of(text, name):
    """The words of a string, the first of which has to be the name."""
    need(isinstance(text, str), "text")
    fields = text.split(" ")
    must_stand(fields[0] == name, 0)
    return fields


def must_have(fields, at):
    """Refuse a line that has no word with this index, where one has to be."""
    must_stand(len(fields) > at, len(fields))


def must_stand(fine, at):
    """Refuse the word with this index, unless it is fine."""
    if not fine:
        raise InvalidText(0, at)


def number_in(part):
    """The number that is written so, or -1."""
    if not (part.isascii() and part.isdigit()) or len(part) > MOST_DIGITS:
        return -1
    if part[0] == "0" and part != "0":
        return -1
    return int(part)


def numbers_in(part):
    """The numbers written with commas between, -1 for each that is none."""
    return tuple([number_in(piece) for piece in part.split(",")])


def pair_in(part):
    """The two numbers written with a colon between, -1 for what is none."""
    halves = part.split(":")
    if len(halves) != 2:
        return -1, -1
    return number_in(halves[0]), number_in(halves[1])


def place_in(part):
    """The moves and what is shown, written with a colon between, -1 for what is none."""
    halves = part.split(":")
    if len(halves) != 2:
        return (), -1
    return numbers_in(halves[0]), number_in(halves[1])


def all_below(numbers, many):
    """Whether all are numbers, and below many."""
    return all([0 <= number < many for number in numbers])
