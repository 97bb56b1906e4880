"""[49], [50]: papers on whether two machines are alike."""

import unittest

from ledalong.errors import InvalidPaper
from ledalong.likepapers import alike_paper, lets_alike
from tests import plain
from tests.samples import (LAST, NO_MACHINES, NO_NUMBERS, NO_TUPLES, OBJECTS, TURN, Case, no_below, no_fitting, no_words)
from tests.test_likeness import ROUND, STILL
from tests.test_replacing import FLIP, PAIRS, ZERO, are_alike_by_words

MARKS = ("alike", (4, 0, 4, 0), (4, 0))
WORDS = ("unlike", 0, 1, ((0,),))


def is_plain_number(thing):
    """Whether any value is a number."""
    return type(thing) is int and thing >= 0


def plain_marks(machines, marks):
    """The first fault of two tuples as marks of two machines, or None."""
    for k in (0, 1):
        if len(marks[k]) != len(machines[k]) or not all(is_plain_number(mark) for mark in marks[k]):
            return "marks", k
    places = [(side, q) for side in (0, 1) for q in range(len(machines[side]))]
    for side, q in places:
        if marks[side][q] not in marks[1 - side]:
            return "lacks", (side, q)
    for side, q in places:
        early, first = [(k, s) for k, s in places if marks[k][s] == marks[side][q]][0]
        for a in range(len(machines[0][0])):
            goal, answer = machines[side][q][a]
            late, told = machines[early][first][a]
            if answer != told:
                return "answer", (side, q, a)
            if marks[side][goal] != marks[early][late]:
                return "next", (side, q, a)
    return None


def plain_words(machines, side, standing, words):
    """The first fault of what is behind "unlike", or None."""
    if type(side) is not int or side not in (0, 1):
        return "side", -1
    if not is_plain_number(standing) or standing >= len(machines[side]):
        return "standing", -1
    if len(words) != len(machines[1 - side]):
        return "many", -1
    for k, word in enumerate(words):
        if type(word) is not tuple or not all(is_plain_number(a) and a < len(machines[0][0]) for a in word):
            return "word", k
        if plain.run(machines[side], standing, word)[1] == plain.run(machines[1 - side], k, word)[1]:
            return "word", k
    return None


def plain_fault(one, other, thing):
    """The first entry of the list that applies to any value, or None."""
    if type(thing) is tuple and len(thing) == 3 and thing[0] == "alike" and type(thing[1]) is type(thing[2]) is tuple:
        return plain_marks((one, other), thing[1:])
    if type(thing) is tuple and len(thing) == 4 and thing[0] == "unlike" and type(thing[3]) is tuple:
        return plain_words((one, other), *thing[1:])
    return "shape", -1


def changed(thing, values):
    """What a tuple becomes if one part of it, however deep, is another value, is left out, or comes twice."""
    for at, part in enumerate(thing):
        for value in values:
            yield thing[:at] + (value,) + thing[at + 1:]
        yield thing[:at] + thing[at + 1:]
        yield thing[:at] + (part,) + thing[at:]
        if type(part) is tuple:
            for other in changed(part, values):
                yield thing[:at] + (other,) + thing[at + 1:]
    yield thing + (0,)


class LikePapers(Case):

    def judge(self, one, other, thing):
        """What the judge tells is what the slow judge does, and it is so."""
        fault = plain_fault(one, other, thing)
        if fault is None:
            self.assertIs(are_alike_by_words(one, other), thing[0] == "alike")
        return self.as_told(fault, fault is None and thing[0] == "alike", lets_alike, one, other, thing)

    def test_papers(self):
        for one, other in PAIRS:
            paper = alike_paper(one, other)
            alike = are_alike_by_words(one, other)
            self.exactly((type(paper), paper[0]), (tuple, "alike" if alike else "unlike"))
            self.assertIs(lets_alike(one, other, paper), alike)
            self.assertIsNone(plain_fault(one, other, paper))
            self.assertIs(lets_alike(one=one, other=other, thing=paper), alike)

    def test_papers_with_one_thing_otherwise(self):
        found = set()
        for one, other in PAIRS[::3] + [(ROUND, FLIP), (FLIP, ROUND), (TURN, LAST), (STILL, ZERO)]:
            for thing in changed(alike_paper(one, other), (0, 1, 2, True, (), (0,), (1, 0), None)):
                found.add(self.judge(one, other, thing))
        self.assertEqual(found, {None, "shape", "marks", "lacks", "answer", "next", "side", "standing", "many", "word"})

    def test_papers_of_other_machines(self):
        papers = [alike_paper(one, other) for one, other in PAIRS[::5]]
        for one, other in PAIRS[::15]:
            for paper in papers:
                self.judge(one, other, paper)

    def test_all_marks(self):
        for one, other in ((ROUND, FLIP), (STILL, ZERO), (STILL, STILL), (FLIP, STILL), (TURN, LAST)):
            places = len(one) + len(other)
            for k in range(3 ** places):
                marks = tuple(k // 3 ** place % 3 for place in range(places))
                self.judge(one, other, ("alike", marks[:len(one)], marks[len(one):]))

    def test_shape(self):
        wrong = NO_TUPLES + (
            (), ("alike",), ("alike", (4, 0, 4, 0)), MARKS + ((),), list(MARKS), ("Alike",) + MARKS[1:], (0,) + MARKS[1:],
            ("alike", [4, 0, 4, 0], (4, 0)), ("alike", (4, 0, 4, 0), [4, 0]), ("alike", None, (4, 0)), ("alike", (4, 0, 4, 0), "40"),
            ("unlike",) + MARKS[1:], ("unlike", 0, 1), ("unlike", 0, ((0,),)), WORDS + (0,), list(WORDS), ("alike",) + WORDS[1:],
            ("unlike", 0, 1, [(0,)]), ("unlike", 0, 1, None), ("unlike", 0, 1, "0"), (None,) + WORDS[1:], (["alike"],) + MARKS[1:],
            (OBJECTS[0],) + MARKS[1:], ((("alike",),),) + MARKS[1:],
        )
        for thing in wrong:
            self.judged("shape", -1, lets_alike, ROUND, FLIP, thing)
            self.judged("shape", -1, lets_alike, STILL, ZERO, thing)

    def test_marks(self):
        for value in NO_NUMBERS:
            self.judged("marks", 0, lets_alike, ROUND, FLIP, ("alike", (4, 0, value, 0), (4,)))
            self.judged("marks", 1, lets_alike, ROUND, FLIP, ("alike", (4, 0, 4, 0), (value, 0)))
        for first in ((), (4, 0), (4, 0, 4), (4, 0, 4, 0, 4)):
            self.judged("marks", 0, lets_alike, ROUND, FLIP, ("alike", first, ()))
        for second in ((), (4,), (4, 0, 4), (4, 0, 4, 0)):
            self.judged("marks", 1, lets_alike, ROUND, FLIP, ("alike", (4, 0, 4, 0), second))
        far = 10 ** 59
        self.assertIs(lets_alike(ROUND, FLIP, ("alike", (far, 7, far, 7), (far, 7))), True)

    def test_marks_that_do_not_show_it(self):
        self.judged("lacks", (0, 2), lets_alike, ROUND, FLIP, ("alike", (4, 0, 5, 0), (4, 0)))
        self.judged("lacks", (1, 1), lets_alike, ROUND, FLIP, ("alike", (4, 4, 4, 4), (4, 0)))
        self.judged("lacks", (0, 0), lets_alike, ROUND, FLIP, ("alike", (1, 1, 1, 1), (0, 0)))
        self.judged("answer", (0, 1, 0), lets_alike, ROUND, FLIP, ("alike", (4, 4, 4, 4), (4, 4)))
        self.judged("answer", (1, 0, 0), lets_alike, ROUND, FLIP, ("alike", (4, 0, 4, 0), (0, 4)))
        two = (((0, 0), (1, 0)), ((0, 0), (0, 0)))
        self.assertIs(lets_alike(two, two, ("alike", (5, 5), (5, 5))), True)
        self.judged("next", (1, 0, 1), lets_alike, two, (((0, 0), (0, 0)), ((1, 0), (1, 0))), ("alike", (5, 6), (5, 6)))
        self.judged("next", (1, 1, 0), lets_alike, (((0, 0), (0, 0)), ((0, 0), (1, 0))), (((0, 0), (0, 0)), ((1, 0), (0, 0))),
                    ("alike", (5, 6), (5, 6)))
        # Of one letter the answer comes first, and the next letter only behind both.
        self.judged("next", (1, 0, 0), lets_alike, two, (((1, 0), (1, 9)), ((1, 0), (1, 9))), ("alike", (5, 6), (5, 6)))
        self.judged("answer", (1, 0, 0), lets_alike, two, (((1, 9), (1, 0)), ((1, 0), (1, 0))), ("alike", (5, 6), (5, 6)))

    def test_words(self):
        for value in no_below(2):
            self.judged("side", -1, lets_alike, STILL, ZERO, ("unlike", value, None, ()))
            self.judged("standing", -1, lets_alike, STILL, ZERO, ("unlike", 0, value, ()))
        self.judged("standing", -1, lets_alike, STILL, ZERO, ("unlike", 1, 1, ()))
        for words in ((), ((0,), (0,)), (1, 2)):
            self.judged("many", -1, lets_alike, STILL, ZERO, ("unlike", 0, 1, words))
        for word in no_words(1) + ((), (1,), (0, 1)):
            self.judged("word", 0, lets_alike, STILL, ZERO, ("unlike", 0, 1, (word,)))
            self.judged("word", 1, lets_alike, ZERO, (((0, 3),),) + STILL[1:], ("unlike", 0, 0, ((0,), word)))
        self.judged("word", 0, lets_alike, STILL, ZERO, ("unlike", 0, 0, ((0,),)))
        for length in (1, 2, 40):
            self.assertIs(lets_alike(STILL, ZERO, ("unlike", 0, 1, ((0,) * length,))), False)
            self.assertIs(lets_alike(ZERO, STILL, ("unlike", 1, 1, ((0,) * length,))), False)

    def test_other_judgements_are_not_asked(self):
        # Papers of either form, of the wrong kind for these machines.
        for one, other in PAIRS[::7]:
            alike = are_alike_by_words(one, other)
            for thing in (MARKS, WORDS, ("alike", (0,) * len(one), (0,) * len(other)), ("unlike", 0, 0, ((0,),) * len(other))):
                try:
                    self.assertIs(lets_alike(one, other, thing), alike)
                except InvalidPaper:
                    pass

    def test_refusals(self):
        wrong = {"one": NO_MACHINES, "other": no_fitting(1)}
        self.refuses_each(alike_paper, {"one": ROUND, "other": FLIP}, wrong)
        self.refuses_each(lets_alike, {"one": ROUND, "other": FLIP, "thing": MARKS}, wrong)
        for value in no_fitting(1):
            self.refused("other", lets_alike, ROUND, value, None)
        for value in NO_MACHINES:
            self.refused("one", lets_alike, value, None, None)


if __name__ == "__main__":
    unittest.main()
