"""Rows within rows: kernels, readers from the lowest digit on, and each so many-th place of a row."""

from ledalong.helper import need
from ledalong.kinds import is_integer, is_number, is_reader, moves_fault, shows_fault
from ledalong.readers import least_by, reader_by


def is_low(thing):
    """Whether any value is a low reader."""
    if moves_fault(thing) is not None:
        return False
    _, moves, shows = thing
    return shows_fault(moves, shows) is None and all([shows[place[0]] == show for place, show in zip(moves, shows)])


def low_read(low, number):
    """What the low reader shows for the number."""
    need(is_low(low), "low")
    need(is_number(number), "number")
    return shown_from(low, 0, number)


def kernel_of(reader):
    """How many rows the kernel has, and the low reader that has a place for each."""
    need(is_reader(reader), "reader")
    low = turned_about(reader)
    return len(low[1]), low


def reader_from(low):
    """The least reader that shows what the low reader shows."""
    need(is_low(low), "low")
    return turned_about(low)


def every(reader, step, begin):
    """The least reader that shows what the reader shows at each place that is begin and some steps."""
    need(is_reader(reader), "reader")
    need(is_integer(step) and step >= 1, "step")
    need(is_number(begin), "begin")
    low = turned_about(reader)
    base, moves, _ = low
    # From the lowest digit on begin + step * n is told digit by digit, with what is carried to the next one.
    return turned_about(reader_by(base, (0, begin), lambda state, digit: carried_to(base, moves, state, step * digit),
                                  lambda state: shown_from(low, state[0], state[1])))


def shown_from(low, place, number):
    """What the low reader shows for the number, begun at a place of it."""
    base, moves, shows = low
    while number > 0:
        place = moves[place][number % base]
        number = number // base
    return shows[place]


def carried_to(base, moves, state, amount):
    """The place, and what is carried, behind an amount at the next digit."""
    place, carry = state
    total = amount + carry
    return moves[place][total % base], total // base


def turned_about(reader):
    """The least triple that shows, for digits from one end on, what this one shows for those from the other end on.

    Behind some digits a row tells for each place of this one what it would show if it came there by the
    digits that are still to come, and then went on by those that were.
    """
    base, moves, shows = least_by(reader)
    return reader_by(base, shows, lambda row, digit: tuple([row[place[digit]] for place in moves]), lambda row: row[0])
