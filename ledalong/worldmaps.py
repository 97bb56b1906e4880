"""The maps of the words of a world."""

from ledalong.allmaps import maps_of_all
from ledalong.families import is_lead, next_family
from ledalong.helper import joined, letter_maps, need
from ledalong.kinds import fits
from ledalong.worlds import is_growing, words_in

# Words are looked for among those of at most NEAR letters first, and then of twice as many, and so on.
NEAR = 8
FEW = 4


def maps_in_world(rule, machine):
    """The set of the maps of all words of the rule."""
    need_growing(rule, machine)
    return maps_in(rule, machine)


def word_with_map(rule, machine, goal):
    """The least word of the rule with this map, or None."""
    need_growing(rule, machine)
    need(is_lead(machine, goal), "goal")
    # Most maps have a short word, and then it need not be known which other ones there are.
    word = least_within(rule, machine, NEAR, lambda lead: lead == goal)
    if word is None and goal in maps_in(rule, machine):
        word = least_mapped(rule, machine, lambda lead: lead == goal)
    return word


def need_growing(rule, machine):
    """Refuse what is no rule that grows, no machine that fits it."""
    need(is_growing(rule), "rule")
    need(fits(rule, machine), "machine")


def maps_in(rule, machine):
    """The set of the maps of all words of a rule that grows.

    A state is a family, with it the sets of the maps of the words that end, and of those that begin,
    the block of each letter. States come round, and what they have not told until then they never tell.
    """
    family = letter_maps(machine)
    still = tuple(range(len(machine)))
    edges = tuple([tuple(sorted({still, lead})) for lead in family])
    state = (family, edges, edges)
    states = {}
    seams = {}
    found = {}
    # With few standings it is soon told how many maps all words of the letters have, world or not: then
    # one may stop at so many, though families may be long in coming round.
    most = len(maps_of_all(machine)) if len(machine) <= FEW else -1
    while state not in states and len(found) != most:
        states[state] = True
        for seam in seams_in(rule, state):
            if seam not in seams:
                seams[seam] = True
                tell_seam(found, seam)
        state = next_state(rule, state)
    return tuple(sorted(list(found)))


def seams_in(rule, state):
    """What there is to both sides of each seam within the blocks of the next level: two sets of maps.

    Each word stands in some block, so in a least one. There it ends one of the blocks of the level below,
    and goes on with a beginning of those that follow.
    """
    family, ends, begins = state
    return [(ends[block[at]], begins_of(family, begins, block[at + 1:])) for block in rule
            for at in range(len(block) - 1)]


def tell_seam(found, seam):
    """Add to the maps found those of the words at the two sides of a seam, put together."""
    for one in seam[0]:
        for other in seam[1]:
            found[joined(one, other)] = True


def next_state(rule, state):
    """The state of the level behind that of a state."""
    family, ends, begins = state
    return (next_family(rule, family), tuple([ends_of(family, ends, block) for block in rule]),
            tuple([begins_of(family, begins, block) for block in rule]))


def ends_of(family, ends, block):
    """The set of the maps of the words that end what becomes of a block."""
    found = []
    rest = tuple(range(len(family[0])))
    for a in block[::-1]:
        found.extend([joined(lead, rest) for lead in ends[a]])
        rest = joined(family[a], rest)
    return tuple(sorted(set(found)))


def begins_of(family, begins, block):
    """The set of the maps of the words that begin what becomes of a block."""
    found = []
    ahead = tuple(range(len(family[0])))
    for a in block:
        found.extend([joined(ahead, lead) for lead in begins[a]])
        ahead = joined(ahead, family[a])
    return tuple(sorted(set(found)))


def words_with_maps(rule, machine, most):
    """The words of the rule with most letters, and for each length up to this the maps of their beginnings.

    Each shorter word begins one of these, and the first of all that it begins are in its order, too.
    """
    maps = letter_maps(machine)
    words = words_in(rule, most)
    rows = [[tuple(range(len(machine))) for _ in words]]
    for at in range(most):
        rows.append([joined(lead, maps[word[at]]) for word, lead in zip(words, rows[-1])])
    return words, rows


def least_mapped(rule, machine, fine):
    """The least word of the rule whose map is fine; there has to be one."""
    most = NEAR
    word = least_within(rule, machine, most, fine)
    while word is None:
        most = 2 * most
        word = least_within(rule, machine, most, fine)
    return word


def least_within(rule, machine, most, fine):
    """The least word of the rule, with at most so many letters, whose map is fine, or None."""
    words, rows = words_with_maps(rule, machine, most)
    for length, row in enumerate(rows):
        for word, lead in zip(words, row):
            if fine(lead):
                return word[:length]
    return None
