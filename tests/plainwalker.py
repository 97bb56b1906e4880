"""A walker of the tests' own: it keeps all letters, and walks all wakings, anew for each question."""

import functools

from ledalong.walkerevents import is_event
from ledalong.worlds import legal_pairs, words_of
from tests import plain
from tests.test_worldstands import first_shown

MOST = 40


@functools.lru_cache(None)
def texts_of(rule):
    """What becomes of legal pairs, by a level by which each letter becomes eighty or more: each word so long stands there."""
    blocks = [(a,) for a in range(len(rule))]
    while min(len(block) for block in blocks) < 2 * MOST:
        blocks = [plain.spread(rule, block) for block in blocks]
    return ["".join(map(str, blocks[a] + blocks[b])) for a, b in legal_pairs(rule)]


@functools.lru_cache(None)
def is_plain_word(rule, word):
    """Whether a word of at most eighty letters is one of the rule."""
    return any("".join(map(str, word)) in text for text in texts_of(rule))


@functools.lru_cache(None)
def plain_may(rule, one, other):
    """Whether one may replace other, as far as words of eighty letters tell."""
    return first_shown(one, other, 0, words_of(rule, 2 * MOST)) is None


@functools.lru_cache(None)
def plain_memory(rule, machine):
    """The rank of words of forty letters."""
    return min(len(set(plain.goals(machine, word))) for word in words_of(rule, 40))


@functools.lru_cache(None)
def run_of(machine, standing, word):
    """Where a word leads, and its answers."""
    answers = []
    for a in word:
        standing, answer = machine[standing][a]
        answers.append(answer)
    return standing, tuple(answers)


class PlainWalker:
    """Events are kept alone; what there is behind them is told by going through all of them."""

    def __init__(self, rule, machine, events=()):
        self.rule = rule
        self.machine = machine
        self.events = list(events)

    def letters(self, events):
        """All letters that events go."""
        word = ()
        for event in events:
            if event[0] == "go":
                word += (event[1],)
            if event[0] == "jump":
                word += plain.block(self.rule, event[1], event[2])
        return word

    def woken(self):
        """The machine that is led now, and at which event it woke."""
        for at in range(len(self.events) - 1, -1, -1):
            if self.events[at][0] == "swap":
                return self.events[at][1], at
        return self.machine, 0

    def told(self):
        """What the properties of a walker tell, by their names."""
        machine, woke = self.woken()
        word = self.letters(self.events)
        since = self.letters(self.events[woke:])
        ways = [run_of(machine, waking, since) for waking in range(len(machine))]
        left = self.left()
        goals = sorted({ways[waking][0] for waking in left})
        rank = len({goal for goal, _ in ways})
        return {
            "rule_now": self.rule, "machine_now": machine, "gone_now": len(word), "trail_now": word[-MOST:],
            "names_now": tuple(sorted(self.names())), "wakings_now": left, "possible_now": tuple(goals),
            "told_now": goals[0] if len(goals) == 1 else None, "rank_now": rank,
            "settled_now": rank == plain_memory(self.rule, machine),
            "classes_now": tuple(sorted(tuple(waking for waking in left if ways[waking][0] == goal) for goal in goals)),
        }

    def left(self):
        """The wakings that have answered as was heard."""
        machine, woke = self.woken()
        left = list(range(len(machine)))
        for at in range(woke, len(self.events)):
            if self.events[at][0] == "hear":
                answers = self.events[at][1]
                since = self.letters(self.events[woke:at])
                left = [waking for waking in left if run_of(machine, waking, since)[1][-len(answers):] == answers]
        return tuple(left)

    def names(self):
        """The names of moments, in the order in which they were given."""
        return [event[1] for event in self.events if event[0] == "mark"]

    def standing(self, waking):
        """The standing to which a waking has been led, and its answers to the last letters."""
        machine, woke = self.woken()
        goal, answers = run_of(machine, waking, self.letters(self.events[woke:]))
        return goal, answers[-MOST:]

    def lets_letters(self, word):
        """Whether, behind the trail, such letters make a word of the rule."""
        return is_plain_word(self.rule, self.letters(self.events)[-MOST:] + word[:MOST])

    def coming(self):
        """The letters that may be gone now."""
        return tuple(a for a in range(len(self.rule)) if self.lets_letters((a,)))

    def barred(self, event):
        """The reason for which any value is refused, or None."""
        if not is_event(event):
            return "shape"
        if len(self.events) >= MOST:
            return "full"
        machine, woke = self.woken()
        if event[0] in ("go", "jump"):
            if event[1] >= len(self.rule):
                return "letter"
            if event[0] == "jump" and event[2] > 200:
                return "level"
            word = (event[1],)
            for _ in range(event[2] if event[0] == "jump" else 0):
                word = plain.spread(self.rule, word)[:MOST]
            return None if self.lets_letters(word) else "word"
        if event[0] == "hear":
            if len(event[1]) > min(MOST, len(self.letters(self.events[woke:]))):
                return "long"
            return None if PlainWalker(self.rule, self.machine, self.events + [event]).left() else "answers"
        if event[0] == "swap":
            if len(event[1][0]) != len(self.rule):
                return "fits"
            return None if plain_may(self.rule, event[1], machine) else "unlike"
        return "twice" if event[1] in self.names() else None
