"""[80], [81], [82]: papers on whether one machine may replace another one along a rule."""

import functools
import unittest

from ledalong.worldpapers import lets_stand, stand_paper
from ledalong.worldstands import may_stand
from ledalong.worlds import is_word_of, words_of
from tests import plain
from tests.samples import (GOLD, LAST, LONG, NO_GROWING, NO_NUMBERS, NO_TUPLES, OBJECTS, THUE, TURN, Case, no_below, no_fitting,
                           no_words)
from tests.test_familypapers import exactly_so
from tests.test_likepapers import changed
from tests.test_worldstands import AGAIN, KEEP, LATE, NEVER, TRIPLES, ZERO, shown_by

EVER = ((((0, 0), (0, 1)),) * 2, ((((0, 1),),),) * 2)


def plain_states(one, other, letters):
    """All states, ascending."""
    return sorted((s, m) for s in range(len(one)) for m in range(-letters, 2 ** len(other)))


def plain_step(one, other, state, a):
    """The state to which a letter leads a state."""
    s, m = state
    goal, answer = one[s][a]
    if m < 0:
        return goal, sum(2 ** t for t in range(len(other))) if m == -1 else m + 1
    possible = [t for t in range(len(other)) if m // 2 ** t % 2 == 1]
    return goal, sum(2 ** t for t in {other[t][a][0] for t in possible if other[t][a][1] == answer})


def plain_way(one, other, state, word):
    """The state to which a word leads a state, letter by letter."""
    for a in word:
        state = plain_step(one, other, state, a)
    return state


def plain_begins(one, other, letters):
    """The begins of all standings of one."""
    return [(s, -letters if letters else 2 ** len(other) - 1) for s in range(len(one))]


def plain_family(rule, one, other, letters, level):
    """The stand family of a low level, by blocks written out."""
    leads, ends = [], []
    for a in range(len(rule)):
        block = plain.block(rule, a, level)
        leads.append(tuple(plain_way(one, other, state, block) for state in plain_states(one, other, letters)))
        rows = {tuple(plain_way(one, other, begin, block[at:]) for begin in plain_begins(one, other, letters))
                for at in range(len(block) + 1)}
        ends.append(tuple(sorted(rows)))
    return tuple(leads), tuple(ends)


def family_above(rule, states, family):
    """The stand family of the level behind that of a family, as [82] tells."""
    ways = [dict(zip(states, lead)) for lead in family[0]]
    leads, ends = [], []
    for block in rule:
        goals = states
        for b in block:
            goals = [ways[b][state] for state in goals]
        leads.append(tuple(goals))
        rows = set()
        for at, b in enumerate(block):
            for row in family[1][b]:
                for c in block[at + 1:]:
                    row = tuple(ways[c][state] for state in row)
                rows.add(row)
        ends.append(tuple(sorted(rows)))
    return tuple(leads), tuple(ends)


@functools.lru_cache(None)
def plain_families(rule, one, other, letters):
    """The stand families up to the first one that comes again, this one too, and the level of the one that it is."""
    states = plain_states(one, other, letters)
    families = [plain_family(rule, one, other, letters, 0)]
    while families[-1] not in families[:-1]:
        families.append(family_above(rule, states, families[-1]))
    return tuple(families), families.index(families[-1])


def is_plain_number(thing, many=10 ** 70):
    """Whether any value is a number below many."""
    return type(thing) is int and 0 <= thing < many


def plain_fault(rule, one, other, letters, thing):
    """The first entry of the list that applies to any value, or None."""
    if type(thing) is not tuple or not thing or type(thing[0]) is not str:
        return "shape", -1
    if len(thing) == 4 and thing[0] == "fails":
        _, waking, v, w = thing
        if not is_plain_number(waking, len(one)):
            return "waking", -1
        for word in (v, w):
            if type(word) is not tuple or not all(is_plain_number(a, len(rule)) for a in word):
                return "word", -1
        if len(v) != letters or not is_word_of(rule, v + w):
            return "word", -1
        return None if shown_by(one, other, waking, v, w) else ("answers", -1)
    if len(thing) != 3 or thing[0] != "levels" or type(thing[2]) is not tuple:
        return "shape", -1
    _, start, families = thing
    if not is_plain_number(start, len(families) - 1):
        return "start", -1
    found, first = plain_families(rule, one, other, letters)
    for n, family in enumerate(families):
        level = n if n < len(found) else first + (n - first) % (len(found) - 1 - first)
        if not exactly_so(family, found[level]):
            return "family", n
    if families[start] != families[-1]:
        return "round", -1
    for n, family in enumerate(families):
        for a, rows in enumerate(family[1]):
            if any(m == 0 for row in rows for _, m in row):
                return "empty", (n, a)
    return None


class WorldPapers(Case):

    def judge(self, rule, one, other, thing, letters):
        """What the judge tells is what the slow judge does."""
        fault = plain_fault(rule, one, other, letters, thing)
        if fault is None:
            self.assertIs(may_stand(rule, one, other, letters=letters), thing[0] == "levels")
        return self.as_told(fault, fault is None and thing[0] == "levels",
                            lambda *arguments: lets_stand(*arguments, letters=letters), rule, one, other, thing)

    def test_papers(self):
        told = []
        for k, triple in enumerate(TRIPLES[::2]):
            for letters in (0, 1 + k % 4):
                paper = stand_paper(*triple, letters=letters)
                told.append(paper[0])
                self.assertIs(paper.__class__, tuple)
                self.assertIsNone(self.judge(*triple, paper, letters))
                self.assertIs(paper[0] == "levels", may_stand(*triple, letters=letters))
        self.assertGreater(min(told.count("fails"), told.count("levels")), 40)

    def test_low_levels_by_blocks(self):
        for k, (rule, one, other) in enumerate(TRIPLES[::3]):
            for letters in (0, 1 + k % 3):
                paper = stand_paper(rule, one, other, letters=letters)
                if paper[0] == "levels":
                    for level, family in enumerate(paper[2]):
                        if max(len(plain.block(rule, a, level)) for a in range(len(rule))) > 40 or level > 9:
                            break
                        self.exactly(family, plain_family(rule, one, other, letters, level))

    def test_longer_and_shorter_ones(self):
        for rule, one, other in TRIPLES[::7]:
            found, first = plain_families(rule, one, other, 0)
            again = found + found[first + 1:]
            for many in {0, 1, len(found) - 1, len(found), len(found) + 1, len(again)}:
                for start in {0, first, first + 1, many - 2, many - 1, many}:
                    self.judge(rule, one, other, ("levels", start, again[:many]), 0)
            if may_stand(rule, one, other):
                self.assertIs(lets_stand(rule, one, other, ("levels", first, again)), True)
                self.assertIs(lets_stand(rule, one, other, ("levels", first, found)), True)

    def test_papers_with_one_thing_otherwise(self):
        found = set()
        for rule, one, other, letters in ((THUE, ZERO, ZERO, 0), (GOLD, ZERO, ZERO, 1), (THUE, LAST, LAST, 0), (GOLD, LATE, LAST, 1),
                                          (THUE, ZERO, TURN, 0), (THUE, LATE, LAST, 1), (GOLD, LATE, ZERO, 0)):
            paper = stand_paper(rule, one, other, letters=letters)
            families, start = plain_families(rule, one, other, letters)
            for thing in (paper, ("levels", start, families)):
                for other_thing in list(changed(thing, (0, 1, True, (), None, "levels", (0, 0), -1)))[::7 if len(repr(thing)) > 999 else 1]:
                    fault = self.judge(rule, one, other, other_thing, letters)
                    found.add(fault)
                self.judge(rule, one, other, thing, letters)
        self.assertEqual(found | {"empty"}, {None, "shape", "waking", "word", "answers", "start", "family", "round", "empty"})

    def test_empty(self):
        places = set()
        for rule, one, other in TRIPLES[::2]:
            for letters in (0, 2):
                if not may_stand(rule, one, other, letters=letters):
                    families, start = plain_families(rule, one, other, letters)
                    self.assertEqual(self.judge(rule, one, other, ("levels", start, families), letters), "empty")
                    fault = plain_fault(rule, one, other, letters, ("levels", start, families))
                    places.add(fault[1])
        self.assertGreater(len({n for n, _ in places}), 2)
        self.assertGreater(len({a for _, a in places}), 2)

    def test_fails_by_all_words(self):
        for rule, one, other, letters in ((THUE, ZERO, TURN, 0), (GOLD, AGAIN, LAST, 0), (GOLD, LATE, LAST, 0), (THUE, LATE, LAST, 2)):
            told = set()
            for word in (word for length in range(6) for word in words_of(rule, length)):
                for waking in range(len(one) + 1):
                    for cut in range(len(word) + 1):
                        told.add(self.judge(rule, one, other, ("fails", waking, word[:cut], word[cut:]), letters))
            self.assertEqual(told, {None, "waking", "word", "answers"})

    def test_shape(self):
        right = stand_paper(THUE, TURN, TURN)
        wrong = NO_TUPLES + (
            (), ("levels",), ("levels", 0), ("fails", 0, ()), right + (0,), right[:2], list(right), ("fails",) + right[1:],
            ("levels", 0, (), (1, 0)), ("Levels",) + right[1:], (["levels"],) + right[1:], (("levels",),) + right[1:],
            (0,) + right[1:], (True,) + right[1:], (None, 0, (), (0,)), ("fails", 0, (), (1, 0), ()), ["fails", 0, (), (1, 0)],
            ("levels", 0, list(right[2])), ("levels", 0, None), ("levels", 0, "levels"), ("levels", 0, 0), (OBJECTS[0],) + right[1:],
        )
        for thing in wrong:
            self.judged("shape", -1, lets_stand, THUE, TURN, TURN, thing)

    def test_entries_in_their_order(self):
        for value in no_below(1):
            self.judged("waking", -1, lets_stand, THUE, ZERO, TURN, ("fails", value, (), (1, 0, 0)))
            self.judged("waking", -1, lets_stand, THUE, ZERO, TURN, ("fails", value, None, None))
            self.judged("start", -1, lets_stand, GOLD, ZERO, ZERO, ("levels", value, (EVER, EVER)))
            self.judged("start", -1, lets_stand, GOLD, ZERO, ZERO, ("levels", value, (None, EVER)))
        for value in no_words(2) + ((0,), (1, 0), (0, 0, 0)):
            self.judged("word", -1, lets_stand, THUE, ZERO, TURN, ("fails", 0, value, (1, 0, 0)))
        for value in no_words(2) + ((0, 0, 0), (0, 1, 0, 1, 0)):
            self.judged("word", -1, lets_stand, THUE, ZERO, TURN, ("fails", 0, (), value))
        for value in NO_TUPLES + ((), EVER[:1], EVER + ((),), (EVER[1], EVER[0]), (EVER[0], ())):
            self.judged("family", 0, lets_stand, GOLD, ZERO, ZERO, ("levels", 0, (value, EVER)))
            self.judged("family", 1, lets_stand, GOLD, ZERO, ZERO, ("levels", 0, (EVER, value)))
        self.judged("answers", -1, lets_stand, THUE, ZERO, TURN, ("fails", 0, (), ()))
        self.judged("start", -1, lets_stand, GOLD, ZERO, ZERO, ("levels", 0, ()))
        self.judged("start", -1, lets_stand, GOLD, ZERO, ZERO, ("levels", 0, (EVER,)))
        self.assertIs(lets_stand(GOLD, ZERO, ZERO, ("levels", 1, (EVER,) * 3)), True)
        truth = ((((0, 0), (0, True)),) * 2, ((((0, 1),),),) * 2)
        self.judged("family", 1, lets_stand, GOLD, ZERO, ZERO, ("levels", 0, (EVER, truth)))
        self.judged("family", 0, lets_stand, GOLD, ZERO, ZERO, ("levels", 0, (((((False, 0), (0, 1)),) * 2, EVER[1]), EVER)))
        # All families are right, but the last one is not the one with this index.
        families, start = plain_families(THUE, LAST, LAST, 0)
        self.assertGreater(len(families) - 1 - start, 1)
        self.judged("round", -1, lets_stand, THUE, LAST, LAST, ("levels", start + 1, families))
        self.judged("round", -1, lets_stand, THUE, AGAIN, LAST, ("levels", 0, plain_families(THUE, AGAIN, LAST, 0)[0][:2]))
        self.judged("family", 2, lets_stand, THUE, LAST, LAST, ("levels", start + 1, (*families[:2], None)))

    def test_many_letters(self):
        for rule, one, other, letters, told in ((LONG, KEEP, NEVER, 31, "fails"), (LONG, KEEP, NEVER, 32, "levels"),
                                                (THUE, AGAIN, LAST, 40, "levels"), (THUE, TURN, TURN, 40, "levels")):
            paper = stand_paper(rule, one, other, letters=letters)
            self.assertEqual(paper[0], told)
            self.assertIsNone(self.judge(rule, one, other, paper, letters))
            self.assertIsNotNone(self.judge(rule, one, other, paper, letters + 1))

    def test_by_name(self):
        paper = stand_paper(rule=GOLD, one=LATE, other=LAST, letters=1)
        self.exactly(paper, stand_paper(GOLD, LATE, LAST, letters=1))
        self.assertIs(lets_stand(rule=GOLD, one=LATE, other=LAST, thing=paper, letters=1), True)
        self.exactly(stand_paper(GOLD, LATE, LAST), ("fails", 1, (), (1,)))
        for function, arguments in ((stand_paper, (GOLD, LATE, LAST, 1)), (lets_stand, (GOLD, LATE, LAST, paper, 1))):
            with self.assertRaises(TypeError):
                function(*arguments)

    def test_refusals(self):
        wrong = {"rule": NO_GROWING, "one": no_fitting(2), "other": no_fitting(2)}
        for rule, one, other in ((THUE, TURN, LAST), (GOLD, AGAIN, LAST)):
            self.refuses_each(stand_paper, {"rule": rule, "one": one, "other": other}, wrong)
            self.refuses_each(lets_stand, {"rule": rule, "one": one, "other": other, "thing": stand_paper(rule, one, other)}, wrong)
        for value in NO_NUMBERS:
            self.refused("letters", stand_paper, THUE, TURN, LAST, letters=value)
            self.refused("letters", lets_stand, THUE, TURN, LAST, None, letters=value)
            self.refused("other", lets_stand, THUE, TURN, NEVER, None, letters=value)


class SlowMeans(unittest.TestCase):

    def test_families_of_low_levels(self):
        for rule, one, other in TRIPLES[::11]:
            families = plain_families(rule, one, other, 1)[0]
            for level, family in enumerate(families[:4]):
                self.assertEqual(family, plain_family(rule, one, other, 1, level))


if __name__ == "__main__":
    unittest.main()
