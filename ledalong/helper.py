"""What many modules need: refusals, and what becomes of words and of blocks, unchecked."""

from ledalong.errors import InvalidPaper, NotUsable


def need(fine, name):
    """Refuse the parameter of this name, unless it is fine."""
    if not fine:
        raise NotUsable(name, -1)


def must_hold(fine, word, at):
    """Refuse the paper with this entry of its judge's list, unless what it asks for is fine."""
    if not fine:
        raise InvalidPaper(word, at)


def spread(blocks, word):
    """What becomes of a word if each letter has its one of the blocks."""
    return tuple([letter for a in word for letter in blocks[a]])


def next_blocks(rule, blocks):
    """What becomes by the rule of each of the blocks."""
    return tuple([spread(rule, block) for block in blocks])


def added_up(rule, amounts):
    """For each letter what the letters of its block have of the amounts, added up."""
    return [sum([amounts[a] for a in block]) for block in rule]


def joined(first, second):
    """The map of a word with the first map and, behind it, one with the second one."""
    return tuple([second[goal] for goal in first])


def word_map(maps, word):
    """The map of a word, not (), whose letters have these maps."""
    lead = maps[word[0]]
    for a in word[1:]:
        lead = joined(lead, maps[a])
    return lead


def letter_maps(machine):
    """The maps of the letters, in order."""
    return tuple([tuple([standing[a][0] for standing in machine]) for a in range(len(machine[0]))])


def map_in(machine, word):
    """The map of a word, perhaps ()."""
    return tuple([led(machine, standing, word)[0] for standing in range(len(machine))])


def rank_in(lead):
    """How many different standings a map has."""
    return len(set(lead))


def goals_in(machine, standings, word):
    """The set of the standings to which the word leads from some of these."""
    return tuple(sorted({led(machine, standing, word)[0] for standing in standings}))


def led(machine, standing, word):
    """The standing to which a word leads, and the answers to it."""
    answers = []
    for a in word:
        standing, answer = machine[standing][a]
        answers.append(answer)
    return standing, tuple(answers)


def firsts_of(things):
    """For each thing the index of the first one that is the same."""
    firsts = {}
    for k, thing in enumerate(things):
        firsts.setdefault(thing, k)
    return tuple([firsts[thing] for thing in things])


def digits_in(base, number):
    """The digits of the number in the base, from the highest one on; () for 0."""
    digits = []
    while number > 0:
        digits.append(number % base)
        number = number // base
    return tuple(digits[::-1])


def shown(reader, number):
    """What the reader shows for the number."""
    base, moves, shows = reader
    place = 0
    for digit in digits_in(base, number):
        place = moves[place][digit]
    return shows[place]


def reached(letters, begin, step):
    """All states to which words of so many letters lead from one, each with its least word, shorter words first."""
    words = {begin: ()}
    layer = [begin]
    while len(layer) > 0:
        layer = next_layer(letters, words, layer, step)
    return words


def least_word_to(letters, begin, step, fine):
    """The least word of so many letters that leads from a state to a fine one, or None."""
    words = {begin: ()}
    layer = [begin]
    while len(layer) > 0:
        for state in layer:
            if fine(state):
                return words[state]
        layer = next_layer(letters, words, layer, step)
    return None


def next_layer(letters, words, layer, step):
    """The states to which one letter more leads first; their words go to the others.

    A layer is in the order of its words, and so is the next one: so each state gets its least word.
    """
    fresh = []
    for state in layer:
        for a in range(letters):
            goal = step(state, a)
            if goal not in words:
                words[goal] = (*words[state], a)
                fresh.append(goal)
    return fresh
