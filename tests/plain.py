"""Slow and plain means of the tests' own: blocks written out, and all words level by level."""


def spread(rule, word):
    """What becomes of a word."""
    out = []
    for a in word:
        out.extend(rule[a])
    return tuple(out)


def block(rule, a, n):
    """The block of a letter of the level n."""
    word = (a,)
    for _ in range(n):
        word = spread(rule, word)
    return word


def does_grow(rule):
    """The least level with all letters in all blocks, up to a level beyond which there is none; or None."""
    if max(len(part) for part in rule) == 1:
        return None
    lots = [{a} for a in range(len(rule))]
    for n in range(len(rule) ** 2 + 2):
        if all(len(lot) == len(rule) for lot in lots):
            return n
        lots = [{b for a in lot for b in rule[a]} for lot in lots]
    return None


def pieces(word, longest):
    """All pieces of a word with 0 to so many letters."""
    return {word[i:i + k] for k in range(longest + 1) for i in range(len(word) - k + 1)}


def world(rule, longest):
    """All words, with at most so many letters, of a rule that grows.

    The pieces of blocks of one level make those of the next one, so if two levels one behind the
    other have the same ones, all later ones have; and each block of a lower level stands in one of
    a higher level.
    """
    n = 0
    blocks = [(a,) for a in range(len(rule))]
    before = None
    while True:
        now = set()
        for one in blocks:
            now |= pieces(one, longest)
        if now == before and min(len(one) for one in blocks) >= longest:
            return now
        before = now
        blocks = [spread(rule, one) for one in blocks]
        n += 1


def stands(word, whole):
    """The first place at which a word stands in another one, -1 without one."""
    for i in range(len(whole) - len(word) + 1):
        if whole[i:i + len(word)] == word:
            return i
    return -1


def parents(rule, words, word):
    """All parents of a word, words being all words of the rule that are not longer."""
    found = set()
    for above in words:
        if above == ():
            continue
        far = spread(rule, above)
        for skip in range(len(rule[above[0]])):
            rest = len(far) - skip - len(word)
            if 0 <= rest < len(rule[above[-1]]) and far[skip:skip + len(word)] == word:
                found.add((above, skip, rest))
    return found


def run(machine, standing, word):
    """The standing to which a word leads, and the tuple of the answers."""
    answers = ()
    for a in word:
        answers += (machine[standing][a][1],)
        standing = machine[standing][a][0]
    return standing, answers


def goals(machine, word):
    """The map of a word, each standing led letter by letter."""
    return tuple(run(machine, standing, word)[0] for standing in range(len(machine)))


def shorter_first(words):
    """Words in their order: shorter ones first."""
    return sorted(words, key=lambda word: (len(word), word))


def alike(machine, one, beside, other):
    """Whether two standings, of the same machine or of two, give the same answers to all words.

    If they do to all words with as many letters as both have standings together, they do to all.
    """
    pairs = {(one, other)}
    for _ in range(len(machine) + len(beside)):
        for q, s in pairs:
            if any(machine[q][a][1] != beside[s][a][1] for a in range(len(machine[0]))):
                return False
        pairs = {(machine[q][a][0], beside[s][a][0]) for q, s in pairs for a in range(len(machine[0]))}
    return True


def subsets(many):
    """All ascending tuples of numbers below many."""
    return [tuple(q for q in range(many) if (k >> q) & 1) for k in range(1 << many)]
