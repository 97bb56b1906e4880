"""[86], [87]: two machines along a rule, as objects."""

import unittest

from ledalong.alongclasses import Along
from ledalong.endlooks import agree_behind, plain_word
from ledalong.forgetting import forgets
from ledalong.worldpapers import lets_stand, stand_paper
from ledalong.worlds import is_word_of, words_of
from ledalong.worldstands import failing_word, least_letters, may_stand
from tests import plain
from tests.samples import (GOLD, LAST, LONG, NO_GROWING, NO_NUMBERS, NO_TUPLES, OBJECTS, THUE, TURN, Case, no_below, no_fitting,
                           no_words)
from tests.test_forgetting import rows_of
from tests.test_worldstands import AGAIN, KEEP, LATE, NEVER, TRIPLES, ZERO, shown_by
from tests.test_worlds import no_words_of

FAR = 40


def plain_pairs(rule, one, other):
    """The pairs of standings that no word of forty letters, by LONG of eighty ones, tells apart."""
    words = words_of(rule, 2 * FAR if rule == LONG else FAR)
    return tuple((s, t) for s in range(len(one)) for t in range(len(other))
                 if all(plain.run(one, s, word)[1] == plain.run(other, t, word)[1] for word in words))


def plain_led(one, other, word):
    """For each standing of one where the word leads it, and the set of those of other that answer alike."""
    told = []
    for s in range(len(one)):
        goal, answers = plain.run(one, s, word)
        ways = [plain.run(other, t, word) for t in range(len(other))]
        told.append((goal, tuple(sorted({late for late, said in ways if said == answers}))))
    return tuple(told)


class Alongs(Case):

    def test_pairs(self):
        sizes = set()
        for rule, one, other in TRIPLES:
            it = Along(rule, one, other)
            pairs = plain_pairs(rule, one, other)
            self.exactly((it.rule_now, it.one_now, it.other_now, it.pairs_now), (rule, one, other, pairs))
            self.exactly((list(it), tuple(it), len(it)), (list(pairs), pairs, len(pairs)))
            for s in range(len(one)):
                self.exactly(it[s], tuple(t for t in range(len(other)) if (s, t) in pairs))
                for t in range(len(other)):
                    self.assertIs((s, t) in it, (s, t) in pairs)
            sizes.add(len(pairs))
            # [87]
            if all(it[s] != () for s in range(len(one))):
                self.assertIs(it.may(), True)
        self.assertTrue(sizes >= {0, 1, 2, 3, 9})

    def test_it_may_though_some_set_is_empty(self):
        # To what begins with 0 the standing 0 of the other one answers 0 for ever, to what begins with 1 the standing 1.
        it = Along(((0, 1), (0, 1)), ZERO, (((1, 0), (0, 1)), ((1, 1), (0, 0))))
        self.exactly([it.may(), it[0], len(it), it((0,)), it((1, 0))], [True, (), 0, ((0, (1,)),), ((0, (1,)),)])
        found = []
        for triple in TRIPLES:
            it = Along(*triple)
            if it.may() and any(it[s] == () for s in range(len(triple[1]))):
                found.append(triple)
        self.assertGreater(len(found), 0)

    def test_letters_that_come_by_turns_of_levels(self):
        # By these rules it hangs on the level which letter begins the blocks that follow.
        turns, thin = ((1, 0, 1), (0, 1, 0)), ((1, 0, 1), (0,))
        for triple, pairs in (((turns, (((1, 0), (0, 0)), ((0, 1), (0, 0))), ZERO), ((0, 0),)),
                              ((thin, (((2, 1), (1, 0)), ((0, 1), (1, 0)), ((1, 0), (2, 1))), (((0, 1), (0, 0)),)), ((1, 0),)),
                              ((thin, (((2, 0), (2, 0)), ((1, 1), (2, 0)), ((0, 0), (1, 0))), (((0, 1), (1, 0)), ((0, 0), (0, 0)))), ((1, 0), (2, 1)))):
            self.exactly(Along(*triple).pairs_now, pairs)
            self.exactly(plain_pairs(*triple), pairs)

    def test_words(self):
        for rule, one, other in TRIPLES[::3]:
            it = Along(rule, one, other)
            shown = []
            for word in [word for row in rows_of(rule)[:8] for word in row]:
                told = plain_led(one, other, word)
                self.exactly(it(word), told)
                shows = any(lot == () for _, lot in told)
                self.assertIs(it.shows(word), shows)
                self.assertIs(shows, any(shown_by(one, other, s, (), word) for s in range(len(one))))
                # [87]: what begins with a word that shows, shows.
                self.assertTrue(shows or not any(word[:len(one_shown)] == one_shown for one_shown in shown))
                if shows:
                    shown.append(word)
            self.assertFalse(it.may() and shown)
            if it.may():
                self.assertFalse(any(it.shows(word) for word in words_of(rule, FAR)[::5]))
            else:
                self.assertIs(it.shows(it.fails()[2]), True)
        self.exactly(Along(GOLD, LATE, LAST)(word=(1, 0)), ((0, (0,)), (0, ())))

    def test_shows_any_value(self):
        it = Along(GOLD, AGAIN, LAST)
        for value in no_words(2) + no_words_of(GOLD):
            self.assertIs(it.shows(value), False)
        self.exactly([it.shows(thing=(0,)), it.shows((0, 1)), it.shows(()), it.shows((1, 1)), it.shows([0]), it.shows((False,))],
                     [True, True, False, False, False, False])

    def test_functions(self):
        for k, triple in enumerate(TRIPLES[::4]):
            it = Along(*triple)
            letters = k % 3
            self.exactly([it.may(), it.fails(), it.paper(), it.least(), it.plain()],
                         [may_stand(*triple), failing_word(*triple), stand_paper(*triple), least_letters(*triple), plain_word(*triple)])
            self.exactly([it.may(letters), it.fails(letters), it.paper(letters)],
                         [it.may(letters=letters), it.fails(letters=letters), it.paper(letters=letters)])
            self.exactly([it.may(letters), it.fails(letters), it.paper(letters)],
                         [function(*triple, letters=letters) for function in (may_stand, failing_word, stand_paper)])
            paper = it.paper(letters)
            told = lets_stand(*triple, paper, letters=letters)
            self.exactly([it.judged(paper, letters), it.judged(thing=paper, letters=letters)], [told, told])
            self.judged("shape", -1, it.judged, None)
            self.judged("shape", -1, it.judged, paper[:2], letters)
            if forgets(*triple[:2]) and forgets(triple[0], triple[2]):
                self.assertIs(it.agree(), agree_behind(*triple))
            else:
                self.refused("other" if forgets(*triple[:2]) else "one", it.agree)

    def test_letters_tell(self):
        it = Along(LONG, KEEP, NEVER)
        self.exactly([it.may(), it.may(31), it.may(32), it.least(), it.fails(32), it.agree(), it.plain()],
                     [False, False, True, 32, None, True, None])
        paper = it.paper(32)
        self.exactly([paper[0], it.judged(paper, 32), it.judged(it.paper(31), 31)], ["levels", True, False])
        self.judged("family", 0, it.judged, paper, 31)

    def test_turned_about(self):
        for rule, one, other in TRIPLES[::6]:
            it = Along(rule, one, other)
            turned = it.turned_about()
            self.assertIs(turned.__class__, Along)
            self.exactly((turned.rule_now, turned.one_now, turned.other_now), (rule, other, one))
            self.exactly(turned.pairs_now, tuple(sorted((t, s) for s, t in it.pairs_now)))
            self.assertIs(turned.turned_about() == it, True)
            self.assertIs(turned == it, one == other)

    def test_equal(self):
        it = Along(GOLD, LATE, LAST)
        self.assertIs(it == Along(rule=((0, 1), (0,)), one=tuple(LATE), other=LAST), True)
        self.assertIs(it != Along(GOLD, LATE, LAST), False)
        for late in (Along(GOLD, LAST, LATE), Along(GOLD, LATE, TURN), Along(GOLD, AGAIN, LAST), Along(THUE, LATE, LAST),
                     None, 0, True, (GOLD, LATE, LAST), ((0, 0),), "it", [], OBJECTS[0], OBJECTS[1], OBJECTS[2]):
            self.assertIs(it == late, False)
            self.assertIs(late == it, False)
            self.assertIs(it != late, True)

    def test_any_value_in_it(self):
        it = Along(THUE, TURN, TURN)
        for value in NO_TUPLES + ((), (0,), (0, 0, 0), (0, 1), (1, 0), (0, 2), (-1, 0), (False, 0), (0, False), (1, True), (True, 1),
                                  [0, 0], ((0, 0),), (None, 0), ("0", 0), (0, None)):
            self.assertIs(value in it, False)
        self.exactly([(0, 0) in it, (1, 1) in it, list(it)], [True, True, [(0, 0), (1, 1)]])

    def test_iterated_twice_at_once(self):
        it = Along(THUE, ZERO, ZERO * 2 + LAST)
        self.exactly([(a, b) for a in it for b in it], [(a, b) for a in it.pairs_now for b in it.pairs_now])
        first, second = iter(it), iter(it)
        self.exactly([next(first), next(first), next(second)], [(0, 0), (0, 1), (0, 0)] if len(it) > 1 else None)

    def test_refusals(self):
        wrong = {"rule": NO_GROWING, "one": no_fitting(2), "other": no_fitting(2)}
        for rule, one, other in ((THUE, TURN, LAST), (GOLD, AGAIN, LAST)):
            self.refuses_each(Along, {"rule": rule, "one": one, "other": other}, wrong)
        it = Along(GOLD, AGAIN, LAST)
        for value in no_below(3):
            self.refused("standing", it.__getitem__, value)
        for value in no_words(2) + no_words_of(GOLD):
            self.refused("word", it, value)
        for value in NO_NUMBERS:
            for function in (it.may, it.fails, it.paper):
                self.refused("letters", function, value)
                self.refused("letters", function, letters=value)
            self.refused("letters", it.judged, None, value)
            self.refused("letters", it.judged, it.paper(), value)
        self.exactly((it.rule_now, it.one_now, it.other_now, it.pairs_now), (GOLD, AGAIN, LAST, plain_pairs(GOLD, AGAIN, LAST)))

    def test_it_does_not_change(self):
        it = Along(GOLD, LATE, LAST)
        for name in ("rule_now", "one_now", "other_now", "pairs_now"):
            before = getattr(it, name)
            with self.assertRaises(AttributeError):
                setattr(it, name, 5)
            self.exactly(getattr(it, name), before)
        self.assertTrue(is_word_of(GOLD, (1, 0)))
        self.exactly([it((1, 0)), it((1, 0))], [((0, (0,)), (0, ()))] * 2)


if __name__ == "__main__":
    unittest.main()
