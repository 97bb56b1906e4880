"""The words of a rule that grows.

A table is a list of rows, one for each state, with the state to which each letter leads.
The map of a word along a table is the list of the states to which it leads, from each in order.
"""

from ledalong.helper import added_up, need, next_blocks, spread, word_map
from ledalong.kinds import are_below, is_number, is_rule


def grows(rule):
    """The least level at which each letter stands in each block, or None."""
    need(is_rule(rule), "rule")
    return growth_in(rule)


def legal_pairs(rule):
    """The set of the words of the rule with two letters."""
    need(is_growing(rule), "rule")
    return pairs_in(rule)


def is_word_of(rule, word):
    """Whether any value is a word of the rule."""
    need(is_growing(rule), "rule")
    return stands_in(rule, word)


def words_of(rule, length):
    """The set of the words of the rule with so many letters."""
    need(is_growing(rule), "rule")
    need(is_number(length), "length")
    return words_in(rule, length)


def following(rule, word):
    """The set of the letters that may come behind the word."""
    need(is_growing(rule), "rule")
    need(stands_in(rule, word), "word")
    return tuple([a for a in range(len(rule)) if stands_in(rule, (*word, a))])


def ahead_of(rule, word):
    """The set of the letters that may come ahead of the word."""
    need(is_growing(rule), "rule")
    need(stands_in(rule, word), "word")
    return tuple([a for a in range(len(rule)) if stands_in(rule, (a, *word))])


def is_growing(thing):
    """Whether any value is a rule that grows."""
    return is_rule(thing) and growth_in(thing) is not None


def growth_in(rule):
    """The least level at which each letter stands in each block, or None if the rule does not grow.

    A lot of letters is kept as the sum of the 1 << a.
    """
    many = len(rule)
    if max([len(block) for block in rule]) < 2:
        return None
    lots = [1 << a for a in range(many)]
    leaps = [[sum([1 << b for b in range(many) if b in block]) for block in rule]]
    # Once a level has each letter in each block, so have all greater ones; and if any level has, the
    # level (many - 1) ** 2 + 1 has (a bound of Wielandt's). So leaps of 1, 2, 4 .. levels find it.
    while 1 << (len(leaps) - 1) < (many - 1) ** 2 + 1:
        leaps.append(lots_behind(leaps[-1], leaps[-1]))
    if not all_full(leaps[-1]):
        return None
    if all_full(lots):
        return 0
    level = 0
    for k in range(len(leaps) - 1, -1, -1):
        far = lots_behind(lots, leaps[k])
        if not all_full(far):
            lots, level = far, level + (1 << k)
    return level + 1


def lots_behind(lots, leap):
    """The lots of the letters that stand in what becomes of lots by a leap of some levels."""
    return [lot_behind(lot, leap) for lot in lots]


def lot_behind(lot, leap):
    """The lot of the letters that stand in what becomes of one lot."""
    far = 0
    for a, more in enumerate(leap):
        if (lot >> a) & 1 == 1:
            far = far | more
    return far


def all_full(lots):
    """Whether each lot has a letter for each of the lots."""
    return all([lot == (1 << len(lots)) - 1 for lot in lots])


def pairs_in(rule):
    """The set of the words with two letters of a rule that grows."""
    pairs = []
    more = sorted({pair for block in rule for pair in zip(block, block[1:])})
    while len(more) > len(pairs):
        pairs = more
        # Where two blocks meet there is a pair, too, made by that of their letters.
        more = sorted(set(pairs) | {(rule[a][-1], rule[b][0]) for a, b in pairs})
    return tuple(pairs)


def words_in(rule, length):
    """The set of the words with so many letters of a rule that grows."""
    if length < 2:
        return ((),) if length == 0 else tuple([(a,) for a in range(len(rule))])
    blocks = rule
    while min([len(block) for block in blocks]) < 2:
        blocks = next_blocks(rule, blocks)
    thin = min([len(block) for block in blocks])
    steps = [length]
    while steps[-1] > 2:
        # So many blocks, the first of them cut but not away, have at least the letters of the step.
        steps.append((steps[-1] - 2) // thin + 2)
    words = pairs_in(rule)
    for step in steps[-2::-1]:
        words = pieces_of(blocks, words, step)
    return words


def pieces_of(blocks, words, length):
    """The set of the words so long in what becomes of words, begun in the block of the first letter."""
    spreads = [(spread(blocks, word), len(blocks[word[0]])) for word in words]
    return tuple(sorted({far[at:at + length] for far, many in spreads for at in range(many)}))


def stands_in(rule, word):
    """Whether any value is a word of a rule that grows."""
    if not are_below(word, len(rule)):
        return False
    if word == ():
        return True
    goal = len(word)
    table = [*seek_table(rule, word)[:goal], [goal for _ in rule]]
    maps = far_maps(rule, table, goal - 1)
    return any([maps[b][maps[a][0]] == goal for a, b in pairs_in(rule)])


def seek_table(rule, word):
    """The table whose state, from 0 on, tells how many letters of the word, not (), end what was read."""
    table = [[1 if a == word[0] else 0 for a in range(len(rule))]]
    back = 0
    for k in range(1, len(word) + 1):
        row = list(table[back])
        if k < len(word):
            back = row[word[k]]
            row[word[k]] = k + 1
        table.append(row)
    return table


def far_maps(rule, table, least):
    """The maps of all blocks of the first level at which none has fewer than least letters."""
    maps = [[row[a] for row in table] for a in range(len(rule))]
    lengths = [1 for _ in rule]
    while min(lengths) < least:
        maps = [word_map(maps, block) for block in rule]
        lengths = added_up(rule, lengths)
    return maps
