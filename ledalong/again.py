"""Where words of a world come again.

A sight is what is seen of a word along a piece: the state of its table behind the piece, after how
many letters the word ends first, after how many last, and the greatest distance between two ends
one after the other; 0 where there is none.
"""

from ledalong.helper import added_up, need
from ledalong.kinds import is_below
from ledalong.worlds import is_growing, pairs_in, seek_table, stands_in


def level_of_word(rule, word):
    """The least level at which the word stands in each block."""
    need(is_growing(rule), "rule")
    need(stands_in(rule, word), "word")
    if word == ():
        return 0
    return seen_in_all(rule, word, list(range(len(rule))))[0]


def stretch_of_word(rule, word):
    """The least length such that each word of the rule so long has the word in it."""
    need(is_growing(rule), "rule")
    need(stands_in(rule, word), "word")
    if word == ():
        return 0
    _, lengths, sights = seen_in_all(rule, word, list(range(len(rule))))
    # Each block has the word, so from one place where it stands to the next one there is at most
    # one seam of two blocks.
    widest = max([sight_along(lengths, sights, pair, 0)[3] for pair in pairs_in(rule)])
    return widest + len(word) - 1


def first_in(rule, letter, word):
    """The least level at which the word stands in the letter's block, and its first place there."""
    need(is_growing(rule), "rule")
    need(is_below(letter, len(rule)), "letter")
    need(stands_in(rule, word), "word")
    if word == ():
        return 0, 0
    level, _, sights = seen_in_all(rule, word, [letter])
    return level, sights[letter][0][1] - len(word)


def seen_in_all(rule, word, letters):
    """The least level at which the word stands in the blocks of all these letters.

    With it come the lengths of the blocks of this level and, for each letter, their sights from
    each state.
    """
    level = 0
    lengths = [1 for _ in rule]
    sights = letter_sights(rule, word)
    while not all([sights[a][0][1] > 0 for a in letters]):
        level = level + 1
        sights = [[sight_along(lengths, sights, block, state) for state in range(len(word) + 1)]
                  for block in rule]
        lengths = added_up(rule, lengths)
    return level, lengths, sights


def letter_sights(rule, word):
    """The sights of each letter, from each state."""
    table = seek_table(rule, word)
    return [[letter_sight(row[a], len(word)) for row in table] for a in range(len(rule))]


def letter_sight(state, goal):
    """The sight of a letter that leads to the state."""
    if state == goal:
        return state, 1, 1, 0
    return state, 0, 0, 0


def sight_along(lengths, sights, word, state):
    """The sight of the blocks of the letters of a word, one behind the other, from a state."""
    sight = (state, 0, 0, 0)
    length = 0
    for a in word:
        sight = joined_sight(sight, length, sights[a][sight[0]])
        length = length + lengths[a]
    return sight


def joined_sight(sight, length, more):
    """The sight of a piece with so many letters and of another one behind it."""
    _, first, last, widest = sight
    state, begin, end, wide = more
    if begin == 0:
        return state, first, last, widest
    if first == 0:
        return state, length + begin, length + end, wide
    return state, first, length + end, max(widest, length + begin - last, wide)
