"""Readers: numbers read by their digits, readers of rows, and the least ones."""

from ledalong.helper import digits_in, least_word_to, need, reached, shown
from ledalong.kinds import is_even, is_integer, is_number, is_reader, is_rule
from ledalong.likeness import marks_in


def digits_of(base, number):
    """The digits of the number in the base, from the highest one on."""
    need(is_integer(base) and base >= 2, "base")
    need(is_number(number), "number")
    return digits_in(base, number)


def number_read(reader, number):
    """What the reader shows for the number."""
    need(is_reader(reader), "reader")
    need(is_number(number), "number")
    return shown(reader, number)


def reader_of(rule):
    """The reader whose row is the one that grows from 0."""
    need(is_rowed(rule), "rule")
    return len(rule[0]), rule, tuple(range(len(rule)))


def rule_of(reader):
    """The rule whose blocks are the moves, and what is shown."""
    need(is_reader(reader), "reader")
    return reader[1], reader[2]


def least_reader(reader):
    """The reader with this base and row that has the fewest places."""
    need(is_reader(reader), "reader")
    return least_by(reader)


def parting_number(reader, other):
    """The least number for which both readers show unlike ones, or None."""
    need_same_base(reader, other)
    # No least word of digits begins with 0, as place 0 stays by it; so the least one is of the least number.
    digits = least_word_to(reader[0], (0, 0), lambda places, digit: both_moved(reader, other, places, digit),
                           lambda places: reader[2][places[0]] != other[2][places[1]])
    return None if digits is None else number_by(reader[0], digits)


def reader_both(reader, other):
    """The least reader that shows what both show, put together."""
    need_same_base(reader, other)
    many = max(other[2]) + 1
    return least_by(reader_by(reader[0], (0, 0), lambda places, digit: both_moved(reader, other, places, digit),
                              lambda places: reader[2][places[0]] * many + other[2][places[1]]))


def is_rowed(thing):
    """Whether any value is an even rule with blocks of two letters or more, in which 0 begins its own block."""
    return is_rule(thing) and is_even(thing) and len(thing[0]) >= 2 and thing[0][0] == 0


def need_same_base(reader, other):
    """Refuse what is no reader, and no other one with the same base."""
    need(is_reader(reader), "reader")
    need(is_reader(other) and other[0] == reader[0], "other")


def both_moved(reader, other, places, digit):
    """The places of both to which a digit moves."""
    return reader[1][places[0]][digit], other[1][places[1]][digit]


def number_by(base, digits):
    """The number that has these digits, from the highest one on."""
    number = 0
    for digit in digits:
        number = number * base + digit
    return number


def reader_by(base, begin, step, show):
    """The reader, or low one, with a place for each state to which digits lead, numbered as they are met."""
    states = list(reached(base, begin, step))
    numbers = {state: k for k, state in enumerate(states)}
    moves = [tuple([numbers[step(state, digit)] for digit in range(base)]) for state in states]
    return base, tuple(moves), tuple([show(state) for state in states])


def least_by(reader):
    """The least of the triples that show the same for all digits as this one, whichever end they are read from."""
    base, moves, shows = reader
    # Two places are alike if they show the same for all digits that come behind.
    marks = marks_in([[(goal, show) for goal in place] for place, show in zip(moves, shows)])
    return reader_by(base, marks[0], lambda mark, digit: marks[moves[mark][digit]], lambda mark: shows[mark])
