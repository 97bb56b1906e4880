"""What many modules need: refusals, and what becomes of words and of blocks, unchecked."""

from ledalong.errors import InvalidPaper, NotUsable


def need(fine, name):
    """Refuse the parameter of this name, unless it is fine."""
    if not fine:
        raise NotUsable(name, -1)


def must_hold(fine, word, at):
    """Refuse the paper with this entry of its judge's list, unless what it asks for is fine."""
    if not fine:
        raise InvalidPaper(word, at)


def spread(blocks, word):
    """What becomes of a word if each letter has its one of the blocks."""
    return tuple([letter for a in word for letter in blocks[a]])


def next_blocks(rule, blocks):
    """What becomes by the rule of each of the blocks."""
    return tuple([spread(rule, block) for block in blocks])


def added_up(rule, amounts):
    """For each letter what the letters of its block have of the amounts, added up."""
    return [sum([amounts[a] for a in block]) for block in rule]


def led(machine, standing, word):
    """The standing to which a word leads, and the answers to it."""
    answers = []
    for a in word:
        standing, answer = machine[standing][a]
        answers.append(answer)
    return standing, tuple(answers)


def digits_in(base, number):
    """The digits of the number in the base, from the highest one on; () for 0."""
    digits = []
    while number > 0:
        digits.append(number % base)
        number = number // base
    return tuple(digits[::-1])


def shown(reader, number):
    """What the reader shows for the number."""
    base, moves, shows = reader
    place = 0
    for digit in digits_in(base, number):
        place = moves[place][digit]
    return shows[place]
