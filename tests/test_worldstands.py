"""[77], [78], [79]: which machine may replace which one along a rule."""

import functools
import random
import unittest

from ledalong.changes import standings_renamed
from ledalong.forgetting import delay_of
from ledalong.replacing import may_replace
from ledalong.worlds import words_of
from ledalong.worldstands import failing_word, least_letters, may_stand
from tests import plain
from tests.samples import (GOLD, GROWING, LAST, LONG, NO_GROWING, NO_NUMBERS, SLOW, THUE, TURN, Case, no_fitting, some_machines)
from tests.test_forgetting import HOLD, LATE as LATE_RULE, LONGEST, TRIO, is_settled_soon, rows_of

ZERO, LATE = (((0, 0), (0, 0)),), (((0, 0), (1, 0)), ((0, 1), (1, 9)))
AGAIN = LAST + (((0, 7), (1, 7)),)
KEEP = (((0, 0), (0, 0), (0, 0)), ((1, 1), (1, 1), (0, 1)))
NEVER = (((0, 0),) * 3,)
# By LONG 2 comes once in sixteen letters: RING goes on at 2 and answers 1 there to each third one, PASSING to each second one.
RING = tuple(((q, 0), (q, 0), ((q + 1) % 3, int(q == 2))) for q in range(3))
PASSING = tuple(((q, 0), (q, 0), (1 - q, q)) for q in range(2))


def sparing(machine, chance):
    """The machine with answers 0, but for one or two places by chance."""
    spots = {(chance.randrange(len(machine)), chance.randrange(len(machine[0]))) for _ in range(chance.randrange(3))}
    return tuple(tuple((goal, int((q, a) in spots)) for a, (goal, _) in enumerate(part)) for q, part in enumerate(machine))


def beside(machine, chance):
    """The machine with one more standing, from which letters lead as from another one, perhaps with another answer."""
    twin = chance.randrange(len(machine))
    part = [(goal, answer + (chance.randrange(3) == 0)) for goal, answer in machine[twin]]
    return machine + (tuple(part),)


def some_triples():
    """Rules, and pairs of machines that fit them, always the same ones."""
    chance = random.Random(78)
    found = [(THUE, LAST, AGAIN), (THUE, AGAIN, LAST), (GOLD, AGAIN, LAST), (GOLD, LATE, LAST), (THUE, LATE, LAST), (THUE, ZERO, TURN),
             (THUE, TURN, TURN), (LONG, KEEP, NEVER), (THUE, HOLD, TRIO), (GOLD, TRIO, HOLD), (THUE, SLOW, SLOW)]
    found += [(LONG, RING, other) for other in (NEVER, RING[:1] + RING[2:] + RING[1:2], tuple(part[:2] + ((q, 0),) for q, part in enumerate(RING)))]
    found += [(LONG, KEEP, RING), (LONG, RING, KEEP), (LONG, PASSING, RING), (LONG, RING, PASSING), (LONG, PASSING, PASSING[::-1])]
    for rule in GROWING:
        if rule == LATE_RULE:
            continue
        for machine in some_machines(len(rule), 3)[::2 if len(rule) < 3 else 4]:
            thin, other = sparing(machine, chance), sparing(chance.choice(some_machines(len(rule), 3)), chance)
            found.append((rule, thin, other))
            found.append((rule, machine, standings_renamed(machine, tuple(range(len(machine)))[::-1])))
            if len(machine) < 3:
                found.append((rule, machine, beside(machine, chance)))
                found.append((rule, beside(thin, chance), thin))
    return [triple for triple in found if is_settled_soon(triple[0], triple[1])]


TRIPLES = some_triples()


def shown_by(one, other, waking, v, w):
    """Whether no standing of other gives the same answers along w as that to which v leads the waking."""
    told = plain.run(one, plain.run(one, waking, v)[0], w)[1]
    return all(plain.run(other, t, w)[1] != told for t in range(len(other)))


def first_shown(one, other, letters, words):
    """The first of words, with the least waking, that shows that one may not replace other after so many letters."""
    for word in words:
        if len(word) >= letters:
            for waking in range(len(one)):
                if shown_by(one, other, waking, word[:letters], word[letters:]):
                    return waking, word[:letters], word[letters:]
    return None


@functools.lru_cache(None)
def plain_failing(rule, one, other, letters, longest=LONGEST):
    """What failing_word tells, if its word has at most so many letters, or None."""
    return first_shown(one, other, letters, [word for row in rows_of(rule)[letters:longest + 1] for word in row])


class WorldStands(Case):

    def test_many_cases(self):
        self.assertGreater(len(TRIPLES), 200)
        told = [plain_failing(*triple, 0) for triple in TRIPLES]
        self.assertGreater(sum(one is None for one in told), 40)
        self.assertGreater(len({len(one[2]) for one in told if one is not None}), 4)

    def test_failing_word(self):
        late = 0
        for k, triple in enumerate(TRIPLES):
            rule, one, other = triple
            for letters in (0, 1, 2, 3 + k % 5):
                told = failing_word(*triple, letters=letters)
                self.assertIs(may_stand(*triple, letters=letters), told is None)
                near = plain_failing(*triple, letters)
                if near is not None or told is None:
                    self.exactly(told, near)
                if told is None:
                    # Each shorter word begins one of these, and what it shows they show, too.
                    self.assertIsNone(first_shown(one, other, letters, words_of(rule, 30)[k % 4::4]))
                elif near is None:
                    late += 1
                    waking, v, w = told
                    self.assertTrue(shown_by(one, other, waking, v, w))
                    self.assertIn(v + w, words_of(rule, len(v + w)))
                    self.assertIsNone(first_shown(one, other, letters, words_of(rule, len(v + w) - 1)))
                    self.exactly(first_shown(one, other, letters, words_of(rule, len(v + w))), told)
        self.assertGreater(late, 2)

    def test_at_once_by_default(self):
        for triple in TRIPLES[::5]:
            rule, one, other = triple
            self.exactly([may_stand(*triple), failing_word(*triple)], [may_stand(*triple, letters=0), failing_word(*triple, letters=0)])
            self.assertIs(may_stand(rule=rule, one=one, other=other, letters=2), may_stand(*triple, letters=2))
            self.exactly(failing_word(letters=1, other=other, one=one, rule=rule), failing_word(*triple, letters=1))

    def test_least_letters(self):
        found = set()
        for triple in TRIPLES:
            least = least_letters(*triple)
            found.add(least)
            delay = delay_of(*triple[:2])
            if least is None:
                self.assertIs(may_stand(*triple, letters=delay), False)
                self.assertIs(may_stand(*triple, letters=delay + 3), False)
            else:
                self.assertTrue(0 <= least <= delay)
                self.assertIs(may_stand(*triple, letters=least), True)
                self.assertIs(may_stand(*triple, letters=least + 1), True)
                self.assertIs(least == 0 or not may_stand(*triple, letters=least - 1), True)
                if least > 0 and least <= 6:
                    self.assertIsNotNone(plain_failing(*triple, least - 1) or failing_word(*triple, letters=least - 1))
        self.assertTrue(found >= {None, 0, 1, 2, 32})

    def test_after_more_letters(self):
        # A word with more letters ahead asks for no more: if it shows that one may not, its end does, too.
        for k, triple in enumerate(TRIPLES[::3]):
            told = [may_stand(*triple, letters=letters) for letters in range(0, 12, 1 + k % 3)]
            self.exactly(told, sorted(told))

    def test_many_letters(self):
        self.exactly([may_stand(LONG, KEEP, NEVER, letters=letters) for letters in (0, 15, 31, 32, 40)],
                     [False, False, False, True, True])
        self.exactly(least_letters(LONG, KEEP, NEVER), 32)
        waking, v, w = failing_word(LONG, KEEP, NEVER, letters=31)
        self.assertTrue(shown_by(KEEP, NEVER, waking, v, w))
        self.exactly([waking, len(v), w, 2 in v], [1, 31, (2,), False])
        for letters in (5, 20, 40):
            self.exactly([may_stand(THUE, AGAIN, LAST, letters=letters), may_stand(THUE, LATE, LAST, letters=letters)], [True, False])
            self.exactly(failing_word(THUE, LATE, LAST, letters=letters)[0], 0)

    def test_a_letter_that_comes_late(self):
        # 2 comes once in sixteen letters; only there both answer otherwise.
        single = ((((0, 0), (0, 0), (0, 1))),)
        self.exactly([failing_word(LONG, NEVER, NEVER), failing_word(LONG, single, NEVER), failing_word(LONG, single, NEVER, letters=1)],
                     [None, (0, (), (2,)), (0, (0,), (2,))])
        # It is to be heard behind a word that no row has, so nobody sees it.
        hidden = (((1, 0), (1, 0), (0, 0)), ((1, 0), (1, 0), (0, 0)), ((1, 0), (1, 0), (2, 1)))
        self.exactly([failing_word(LONG, hidden, NEVER), failing_word(LONG, hidden, NEVER, letters=1), least_letters(LONG, hidden, NEVER)],
                     [(2, (), (2,)), None, 1])

    def test_consequences(self):
        machines = {}
        for rule, one, other in TRIPLES:
            machines.setdefault(rule, []).extend([one, other])
        for rule, found in machines.items():
            few = list(dict.fromkeys(found))[::max(1, len(found) // 5)][:6]
            may = {(one, other) for one in few for other in few if may_stand(rule, one, other)}
            for one in few:
                self.assertIn((one, one), may)
                for other in few:
                    if may_replace(one, other):
                        self.assertIn((one, other), may)
                    for third in few:
                        if (one, other) in may and (other, third) in may:
                            self.assertIn((one, third), may)

    def test_edges(self):
        one, two = (((0, 3),),), (((0, 4),),)
        self.exactly([may_stand(((0, 0),), one, one), may_stand(((0, 0),), one, two), failing_word(((0, 0),), one, two)],
                     [True, False, (0, (), (0,))])
        self.exactly([failing_word(((0, 0),), one, two, letters=3), least_letters(((0, 0),), one, two), least_letters(((0, 0),), one, one)],
                     [(0, (0, 0, 0), (0,)), None, 0])
        # More standings than the limit.
        four = TURN + tuple(tuple((goal + 2, answer) for goal, answer in part) for part in LAST)
        self.exactly([may_stand(THUE, TURN, four), may_stand(THUE, LAST, four), may_stand(THUE, four, TURN), least_letters(THUE, four, LAST)],
                     [True, True, False, None])

    def test_refusals(self):
        wrong = {"rule": NO_GROWING, "one": no_fitting(2), "other": no_fitting(2)}
        for function in (may_stand, failing_word, least_letters):
            for rule, one, other in ((THUE, TURN, LAST), (GOLD, AGAIN, HOLD)):
                self.refuses_each(function, {"rule": rule, "one": one, "other": other}, wrong)
        for function in (may_stand, failing_word):
            for value in NO_NUMBERS:
                self.refused("letters", function, THUE, TURN, LAST, letters=value)
                self.refused("other", function, THUE, TURN, NEVER, letters=value)
                self.refused("one", function, THUE, None, LAST, letters=value)
            with self.assertRaises(TypeError):
                function(THUE, TURN, LAST, 0)
        with self.assertRaises(TypeError):
            least_letters(THUE, TURN, LAST, letters=0)


if __name__ == "__main__":
    unittest.main()
