"""Whether some row of a world repeats a word for ever."""

from ledalong.errors import InvalidPaper
from ledalong.helper import must_hold, need, spread
from ledalong.kinds import are_below, is_below, is_full, is_integer, is_long
from ledalong.ruleparts import power
from ledalong.worlds import far_maps, is_growing, pairs_in, stands_in, words_in

MOST_POWER = 4


def comes_round(rule):
    """The least word that some row repeats for ever, or None."""
    need(is_growing(rule), "rule")
    paper = paper_of(rule)
    return paper[1] if paper[0] == "round" else None


def round_paper(rule):
    """A paper on whether the rule comes round."""
    need(is_growing(rule), "rule")
    return paper_of(rule)


def lets_round(rule, thing):
    """True for a paper that the rule comes round, False for one that it does not."""
    need(is_growing(rule), "rule")
    if is_long(thing, 2) and thing[0] == "round":
        judge_round(rule, thing[1])
        return True
    if is_long(thing, 5) and thing[0] == "branch":
        judge_branch(rule, thing)
        return False
    raise InvalidPaper("shape", -1)


def paper_of(rule):
    """A paper on whether a rule that grows comes round."""
    length = 40
    reach = 12
    while True:
        word = repeated_word(rule, length)
        if word is not None:
            return "round", word
        paper = branch_paper(rule, reach)
        if paper is not None:
            return paper
        # Beyond the limits of the document there is either still, only longer.
        length, reach = 2 * length, 2 * reach


def repeated_word(rule, length):
    """The least word that a row repeats, if there are no more words of length + 1 letters than of length."""
    words = words_in(rule, length + 1)
    if len({word[:length] for word in words}) < len(words):
        return None
    # Then each word is followed by one letter alone, and all rows are one row, moved by 0 to
    # how many words there are, less 1.
    return words_in(rule, len(words))[0]


def branch_paper(rule, reach):
    """A paper of the kind branch, with words of at most reach letters, or None.

    Words as long as can be are taken all along: where shorter ones go on, these do, too.
    """
    words = words_in(rule, reach + 1)
    forks = [(word, other) for word in words for other in words if word[0] == other[0] and word[1] < other[1]]
    for n in range(1, MOST_POWER + 1):
        blocks = power(rule, n)
        for word, other in forks:
            pairs, back = chain_of(blocks, (word[1:], other[1:]), reach)
            if back >= 0:
                return "branch", n, word[:1], pairs, back
    return None


def chain_of(blocks, pair, reach):
    """The pairs to which a pair leads, and the index of the one that comes again; -1 if it breaks off."""
    pairs = []
    while pair not in pairs:
        pairs.append(pair)
        rests = rests_of(blocks, pair)
        if rests[0] == () or rests[1] == ():
            return tuple(pairs), -1
        pair = tuple(sorted([rest[:reach] for rest in rests]))
    return tuple(pairs), pairs.index(pair)


def rests_of(blocks, pair):
    """What becomes of both words, each without what both have in common at their beginnings."""
    one = spread(blocks, pair[0])
    other = spread(blocks, pair[1])
    common = 0
    while common < min(len(one), len(other)) and one[common] == other[common]:
        common = common + 1
    return one[common:], other[common:]


def judge_round(rule, word):
    """Refuse what is no word that a row repeats for ever."""
    must_hold(stands_in(rule, word) and word != (), "repeated", -1)
    must_hold(is_all_round(rule, word), "other", -1)


def is_all_round(rule, word):
    """Whether all rows repeat a word of the rule.

    They do if, at a level whose blocks have no fewer letters than the word, both blocks of each legal
    pair stand in the word again and again: then each letter comes again behind so many letters. A
    state of the table is a place in the word, or, once a letter was another one, how many it has.
    """
    lost = len(word)
    table = [[(place + 1) % lost if a == letter else lost for a in range(len(rule))]
             for place, letter in enumerate(word)]
    table.append([lost for _ in rule])
    maps = far_maps(rule, table, lost)
    return all([any([maps[b][maps[a][place]] < lost for place in range(lost)]) for a, b in pairs_in(rule)])


def judge_branch(rule, paper):
    """Refuse what does not show that longer and longer words may be followed by two letters."""
    _, n, begin, pairs, back = paper
    must_hold(is_integer(n) and 1 <= n <= MOST_POWER, "power", -1)
    must_hold(stands_in(rule, begin) and begin != (), "begin", -1)
    must_hold(is_full(pairs), "pairs", -1)
    for k, pair in enumerate(pairs):
        must_hold(is_fork(rule, pair), "pair", k)
    must_hold(is_below(back, len(pairs)), "next", -1)
    must_hold(all([stands_in(rule, begin + word) for word in pairs[0]]), "first", -1)
    blocks = power(rule, n)
    goals = [*pairs[1:], pairs[back]]
    for k, goal in enumerate(goals):
        must_hold(rests_begin(rests_of(blocks, pairs[k]), goal), "step", k)


def is_fork(rule, thing):
    """Whether any value is a pair of tuples of letters, not (), with unlike first letters."""
    if not is_long(thing, 2):
        return False
    if not all([is_full(word) and are_below(word, len(rule)) for word in thing]):
        return False
    return thing[0][0] != thing[1][0]


def rests_begin(rests, pair):
    """Whether the two rests begin with the two words, in this or the other order."""
    return begins(rests[0], rests[1], pair) or begins(rests[1], rests[0], pair)


def begins(one, other, pair):
    """Whether one begins with the first word of the pair, the other with the second one."""
    return one[:len(pair[0])] == pair[0] and other[:len(pair[1])] == pair[1]
