"""How machines agree behind words of a world.

Both are led at once, by a machine whose standings are the pairs of a standing of one and one of other, s * m + t
for the m of other, and a last one, off: there a letter leads to which a pair gives unlike answers, and
stays. A row of dangers tells for each standing of this machine whether some way further on leads off.
"""

from ledalong.allmaps import still_map
from ledalong.blocks import block_in
from ledalong.families import families_in, turned_back
from ledalong.forgetting import memory_in, settled_in
from ledalong.helper import added_up, goals_in, led, letter_maps, need
from ledalong.worldmaps import NEAR
from ledalong.worlds import pairs_in, words_in
from ledalong.worldstands import need_two, stands_for


def agree_behind(rule, one, other):
    """Whether both, behind words that both have forgotten their wakings by, give the same answer to the last letter."""
    need_two(rule, one, other)
    need(memory_in(rule, one) == 1, "one")
    need(memory_in(rule, other) == 1, "other")
    delay = max(settled_in(rule, one)[0], settled_in(rule, other)[0])
    return all([led(one, 0, word)[1][-1] == led(other, 0, word)[1][-1] for word in words_in(rule, delay + 1)])


def plain_word(rule, one, other):
    """The least word behind which other, as far as it has answered alike, answers as one for ever; or None."""
    need_two(rule, one, other)
    if not stands_for(rule, one, other, 0):
        return None
    both = led_at_once(one, other)
    families, start = families_in(rule, both)
    dangers = dangers_in(rule, families, start)
    most = NEAR
    word = None
    while word is None:
        level = level_of_length(rule, most)
        word = plain_within(rule, both, dangers[turned_back(level, start, len(families))], level, most)
        most = 2 * most
    return word


def agreeing_pairs(rule, one, other):
    """The set of the pairs of standings that give the same answers along each word of the rule."""
    both = led_at_once(one, other)
    families, start = families_in(rule, both)
    # Each word of the rule comes behind some legal pair, and the blocks of level 0 are the letters.
    ends = dangers_in(rule, families, start)[0]
    pairs = [(s, t) for s in range(len(one)) for t in range(len(other))]
    return tuple([pair for k, pair in enumerate(pairs) if not any([row[k] for row in ends.values()])])


def led_at_once(one, other):
    """The machine that leads both at once; its answers are 0."""
    off = len(one) * len(other)
    rows = [tuple([(both_led(own, beside, len(other), off), 0) for own, beside in zip(standing, late)])
            for standing in one for late in other]
    return (*rows, tuple([(off, 0) for _ in one[0]]))


def both_led(own, beside, many, off):
    """Where a letter leads a pair, its (next, answer) for both being told."""
    return own[0] * many + beside[0] if own[1] == beside[1] else off


def danger_rows(family, word, last):
    """The rows of dangers ahead of each letter of a word and behind it, the last one being told."""
    rows = [last]
    for a in word[::-1]:
        rows.append(tuple([rows[-1][goal] for goal in family[a]]))
    return rows[::-1]


def dangers_in(rule, families, start):
    """For each family, of levels that come round, the row of dangers behind both blocks of each legal pair.

    At first nothing but off is a danger; then each level is told by the one above it, until that changes
    nothing.
    """
    off = len(families[0][0]) - 1
    calm = tuple([standing == off for standing in range(off + 1)])
    dangers = [{pair: calm for pair in pairs_in(rule)} for _ in families]
    before = []
    while dangers != before:
        before = list(dangers)
        for n in range(len(families) - 1, -1, -1):
            above = dangers[n + 1 if n + 1 < len(families) else start]
            dangers[n] = dangers_below(rule, families[n], above)
    return dangers


def dangers_below(rule, family, above):
    """The rows of dangers behind both blocks of each legal pair, by those of the level above."""
    found = {pair: [] for pair in above}
    for pair, last in above.items():
        word = rule[pair[0]] + rule[pair[1]]
        rows = danger_rows(family, word, last)
        for at in range(len(rule[pair[0]])):
            found[word[at:at + 2]].append(rows[at + 2])
    return {pair: tuple([any(column) for column in zip(*rows)]) for pair, rows in found.items()}


def level_of_length(rule, most):
    """The least level at which no block has fewer than most letters."""
    level = 0
    lengths = [1 for _ in rule]
    while min(lengths) < most:
        level = level + 1
        lengths = added_up(rule, lengths)
    return level


def plain_within(rule, both, dangers, level, most):
    """The least word that plain_word tells, if it has at most so many letters, or None.

    Each place at which a word of the rule stands, with all that follows, is one in the first of the blocks of
    this level of a legal pair; no block has fewer than most letters.
    """
    blocks = [block_in(rule, a, level) for a in range(len(rule))]
    pairs = pairs_in(rule)
    texts = [blocks[a] + blocks[b] for a, b in pairs]
    rows = [danger_rows(letter_maps(both), text, dangers[pair]) for text, pair in zip(texts, pairs)]
    spots = {(): [(k, at) for k, pair in enumerate(pairs) for at in range(len(blocks[pair[0]]))]}
    for length in range(most + 1):
        for word in sorted(list(spots)):
            goals = [goal for goal in goals_in(both, still_map(both), word) if goal < len(both) - 1]
            if not any([rows[k][at + length][goal] for k, at in spots[word] for goal in goals]):
                return word
        spots = longer_spots(texts, spots, length)
    return None


def longer_spots(texts, spots, length):
    """The spots of all words with one letter more; spots tell where in texts each word of the length begins."""
    found = {}
    for word, places in spots.items():
        for k, at in places:
            found.setdefault((*word, texts[k][at + length]), []).append((k, at))
    return found
