"""Places in blocks of any level: the letters there, the ways to them, and where rows begin."""

from ledalong.blocks import count_rows, length_rows, need_block
from ledalong.helper import added_up, need, spread
from ledalong.kinds import is_below, is_number, is_rule
from ledalong.worlds import is_growing


def letter_at(rule, letter, level, place):
    """The letter at the place of the block."""
    need_block(rule, letter, level)
    rows = length_rows(rule, level)
    need(is_below(place, rows[level][letter]), "place")
    for index in path_in(rule, rows, letter, place):
        letter = rule[letter][index]
    return letter


def word_at(rule, letter, level, place, length):
    """The word of so many letters from the place of the block on."""
    need_block(rule, letter, level)
    rows = length_rows(rule, level)
    whole = rows[level][letter]
    need(is_below(place, whole + 1), "place")
    need(is_below(length, whole - place + 1), "length")
    return word_in(rule, rows, letter, place, length)


def word_in(rule, rows, letter, place, length):
    """So many letters from the place on of the letter's block of the last level of which rows tell lengths."""
    if length == 0:
        return ()
    word = (letter,)
    for below in range(len(rows) - 2, -1, -1):
        word, place = cut_word(rows[below], spread(rule, word), place, length)
    return word


def cut_word(lengths, word, place, length):
    """The letters of a word in whose blocks so many letters from the place on are, and their place in these."""
    first = 0
    while place >= lengths[word[first]]:
        place = place - lengths[word[first]]
        first = first + 1
    behind = first
    covered = 0
    while covered < place + length:
        covered = covered + lengths[word[behind]]
        behind = behind + 1
    return word[first:behind], place


def path_to(rule, letter, level, place):
    """The indexes, level by level, by which one comes from the letter down to the place."""
    need_block(rule, letter, level)
    rows = length_rows(rule, level)
    need(is_below(place, rows[level][letter]), "place")
    return path_in(rule, rows, letter, place)


def path_in(rule, rows, letter, place):
    """The path to a place that the letter's block of the last level of which rows tell lengths has."""
    path = []
    for below in range(len(rows) - 2, -1, -1):
        index = 0
        while place >= rows[below][rule[letter][index]]:
            place = place - rows[below][rule[letter][index]]
            index = index + 1
        path.append(index)
        letter = rule[letter][index]
    return tuple(path)


def place_by(rule, letter, path):
    """The place to which the path leads in the block of the level len(path)."""
    need(is_rule(rule), "rule")
    need(is_below(letter, len(rule)), "letter")
    need(is_path(rule, letter, path), "path")
    return passed_by(rule, length_rows(rule, len(path)), letter, path)


def is_path(rule, letter, thing):
    """Whether any value is a tuple of indexes, each of the block of the letter come to so far."""
    if not isinstance(thing, tuple):
        return False
    for index in thing:
        if not is_below(index, len(rule[letter])):
            return False
        letter = rule[letter][index]
    return True


def passed_by(rule, rows, letter, path):
    """What rows tell of all blocks that a path passes by, from a letter on, added up."""
    passed = 0
    for step, index in enumerate(path):
        row = rows[len(path) - 1 - step]
        passed = passed + sum([row[a] for a in rule[letter][:index]])
        letter = rule[letter][index]
    return passed


def count_before(rule, letter, level, place, other):
    """How often the other letter stands in the block ahead of the place."""
    need_block(rule, letter, level)
    rows = length_rows(rule, level)
    need(is_below(place, rows[level][letter] + 1), "place")
    need(is_below(other, len(rule)), "other")
    counts = count_rows(rule, other, level)
    if place == rows[level][letter]:
        return counts[level][letter]
    return passed_by(rule, counts, letter, path_in(rule, rows, letter, place))


def place_of(rule, letter, level, other, index):
    """The place at which the other letter stands in the block with so many of it ahead, or None."""
    need_block(rule, letter, level)
    need(is_below(other, len(rule)), "other")
    need(is_number(index), "index")
    counts = count_rows(rule, other, level)
    if index >= counts[level][letter]:
        return None
    path = path_in(rule, counts, letter, index)
    return passed_by(rule, length_rows(rule, level), letter, path)


def seeds(rule):
    """The set of the pairs of a letter and the least level above 0 at which its block begins with it."""
    need(is_rule(rule), "rule")
    found = [(letter, seed_level(rule, letter)) for letter in range(len(rule))]
    return tuple([seed for seed in found if seed[1] > 0])


def seed_level(rule, letter):
    """The least level from 1 on at which the letter's block begins with it; 0 without one."""
    first = letter
    for level in range(1, len(rule) + 1):
        first = rule[first][0]
        if first == letter:
            return level
    return 0


def level_holding(rule, letter, place):
    """The least level at which the letter's block has more than place letters."""
    need(is_growing(rule), "rule")
    need(is_below(letter, len(rule)), "letter")
    need(is_number(place), "place")
    level = 0
    lengths = [1 for _ in rule]
    while lengths[letter] <= place:
        level = level + 1
        lengths = added_up(rule, lengths)
    return level
