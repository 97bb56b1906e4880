"""Parents of words: the words from whose blocks they are cut.

A cut is a triple (above, skip, covered): the beginning of a parent's word, how many letters of what
becomes of it are skipped, and how many it has behind these.
"""

from ledalong.helper import added_up, need, spread
from ledalong.kinds import are_below, is_full, is_integer, is_long, is_number
from ledalong.worlds import is_growing, stands_in, words_in

# While a parent is made letter by letter, its last NEAR letters have to be a word of the rule. Few
# others pass that; if there are more than MANY, and at the end, all letters are looked at.
NEAR = 8
MANY = 64


def parents_of(rule, word):
    """The set of the parents of the word."""
    need_word(rule, word)
    return parents_in(rule, word)


def is_parent(rule, word, thing):
    """Whether any value is a parent of the word."""
    need_word(rule, word)
    if not (is_long(thing, 3) and is_number(thing[1]) and is_number(thing[2])):
        return False
    above, skip, rest = thing
    if above == () or not stands_in(rule, above):
        return False
    if skip >= len(rule[above[0]]) or rest >= len(rule[above[-1]]):
        return False
    far = spread(rule, above)
    return far[skip:len(far) - rest] == word


def grandparents(rule, word, n):
    """The set of the parents of the word by the n-th power of the rule."""
    need_word(rule, word)
    need(is_number(n), "n")
    if not stands_in(rule, word):
        return ()
    found = [(word, 0, 0)]
    lengths = [1 for _ in rule]
    for _ in range(n):
        known = {above: parents_in(rule, above) for above in sorted({triple[0] for triple in found})}
        found = [parent_behind(rule, lengths, triple, parent) for triple in found for parent in known[triple[0]]]
        lengths = added_up(rule, lengths)
    return tuple(sorted(found))


def parent_behind(rule, lengths, triple, parent):
    """The parent of a word that a parent of the word of its parent makes; lengths are those of blocks."""
    above, ahead, behind = parent
    far = spread(rule, above)
    skipped = sum([lengths[a] for a in far[:ahead]])
    left = sum([lengths[a] for a in far[len(far) - behind:]])
    return above, triple[1] + skipped, triple[2] + left


def one_parent(rule, length):
    """Whether each word with so many letters has just one parent."""
    need_length(rule, length, "length")
    return len(set(words_with_parents(rule, length))) == len(words_in(rule, length))


def seams_of(rule, word):
    """The set of the sets of the indexes at which blocks of a parent begin."""
    need_word(rule, word)
    return tuple(sorted({seams_by(rule, parent) for parent in parents_in(rule, word)}))


def seams_told(rule, length):
    """Whether seams_of has just one element for each word with so many letters."""
    need_length(rule, length, "length")
    return are_told(rule, length)


def told_from(rule, most):
    """The least length, at most most, for which seams are told, or None."""
    need_length(rule, most, "most")
    for length in range(1, most + 1):
        if are_told(rule, length):
            return length
    return None


def need_word(rule, word):
    """Refuse what is no rule that grows, or no nonempty word of its letters."""
    need(is_growing(rule), "rule")
    need(is_full(word) and are_below(word, len(rule)), "word")


def need_length(rule, length, name):
    """Refuse what is no rule that grows, or no integer from 1 on; this has the name."""
    need(is_growing(rule), "rule")
    need(is_integer(length) and length >= 1, name)


def parents_in(rule, word):
    """The set of the parents of a nonempty word."""
    near = {far[:length]: True for far in words_in(rule, NEAR) for length in range(1, NEAR + 1)}
    ready = []
    fresh = [((a,), skip, len(rule[a]) - skip) for a in range(len(rule)) for skip in range(len(rule[a]))
             if fits(rule[a][skip:], word, 0)]
    while len(fresh) > 0:
        ready.extend([cut for cut in fresh if cut[2] >= len(word)])
        fresh = [longer for cut in fresh if cut[2] < len(word) for longer in longer_cuts(rule, word, cut, near)]
        if len(fresh) > MANY:
            fresh = [cut for cut in fresh if stands_in(rule, cut[0])]
    return tuple(sorted([(above, skip, covered - len(word)) for above, skip, covered in ready
                         if stands_in(rule, above)]))


def longer_cuts(rule, word, cut, near):
    """The cuts with one letter more whose blocks are those of the word, as far as this goes."""
    above, skip, covered = cut
    return [((*above, a), skip, covered + len(rule[a])) for a in range(len(rule))
            if (*above[1 - NEAR:], a) in near and fits(rule[a], word, covered)]


def fits(part, word, at):
    """Whether a part stands in the word at this place, or stands there as far as the word goes."""
    common = min(len(part), len(word) - at)
    return part[:common] == word[at:at + common]


def words_with_parents(rule, length):
    """Pairs of a word with so many letters and a parent of it, all there are, perhaps some twice."""
    return [piece_with_parent(rule, far, skip, length) for far in words_in(rule, length)
            for skip in range(len(rule[far[0]]))]


def piece_with_parent(rule, far, skip, length):
    """The word with so many letters behind the skipped ones of what becomes of far, and its parent there."""
    covered = -skip
    last = 0
    while covered < length:
        covered = covered + len(rule[far[last]])
        last = last + 1
    piece = spread(rule, far[:last])[skip:skip + length]
    return piece, (far[:last], skip, covered - length)


def are_told(rule, length):
    """Whether the seams of each word with so many letters are told."""
    told = [(word, seams_by(rule, parent)) for word, parent in words_with_parents(rule, length)]
    return len(set(told)) == len(words_in(rule, length))


def seams_by(rule, parent):
    """The set of the indexes of the letters of a word with which a block of the parent begins."""
    above, skip, _ = parent
    begins = []
    place = -skip
    for a in above:
        if place >= 0:
            begins.append(place)
        place = place + len(rule[a])
    return tuple(begins)
