"""[56], [58]: papers on how families come round."""

import unittest

from ledalong.errors import InvalidPaper
from ledalong.families import period_of, start_of
from ledalong.familypapers import family_paper, lets_family
from tests import plain
from tests.samples import GOLD, LAST, NO_NUMBERS, NO_RULES, NO_TUPLES, OBJECTS, THUE, TURN, Case, no_fitting
from tests.test_families import COUNT, EACH, plain_families, plain_family
from tests.test_likepapers import changed

ONE, TWO, THREE = ((0, 1), (1, 0)), ((1, 0), (1, 0)), ((0, 1), (0, 1))
PAPER = ("family", (ONE, TWO, THREE), 2)


def exactly_so(thing, told):
    """Whether a value is another one, of the same kinds throughout."""
    return repr(thing) == repr(told) and thing == told


def plain_fault(rule, machine, thing):
    """The first entry of the list that applies to any value, or None."""
    if type(thing) is not tuple or len(thing) != 3 or thing[0] != "family":
        return "shape", -1
    _, families, start = thing
    if type(families) is not tuple or not families or type(start) is not int or start < 0:
        return "shape", -1
    found, first = plain_families(rule, machine)
    for k, family in enumerate(families):
        level = k if k < len(found) else first + (k - first) % (len(found) - first)
        if not exactly_so(family, found[level]):
            return "family", k
        if family in families[:k]:
            return "twice", k
    if len(families) < len(found) or start != first:
        return "start", -1
    return None


class FamilyPapers(Case):

    def judge(self, rule, machine, thing):
        """What the judge tells is what the slow judge does."""
        result = start_of(rule, machine), period_of(rule, machine)
        return self.as_told(plain_fault(rule, machine, thing), result, lets_family, rule, machine, thing)

    def test_papers(self):
        for rule, machine in EACH:
            found, start = plain_families(rule, machine)
            paper = family_paper(rule, machine)
            self.exactly(paper, ("family", tuple(found), start))
            self.exactly(lets_family(rule, machine, paper), (start, len(found) - start))
            self.exactly(lets_family(rule=rule, machine=machine, thing=paper), (start, len(found) - start))

    def test_low_levels_by_blocks(self):
        for rule, machine in EACH[::4]:
            families = family_paper(rule, machine)[1]
            for level, family in enumerate(families):
                if sum(len(plain.block(rule, a, level)) for a in range(len(rule))) > 500:
                    break
                self.exactly(family, plain_family(rule, machine, level))

    def test_papers_with_one_thing_otherwise(self):
        found = set()
        for rule, machine in ((THUE, TURN), (GOLD, TURN), (GOLD, LAST), (((0, 0),), (((1, 0),), ((0, 0),))), *EACH[5::40]):
            paper = family_paper(rule, machine)
            if len(paper[1]) < 12:
                for thing in changed(paper, (0, 1, 2, True, False, (), (0, 1), None)):
                    found.add(self.judge(rule, machine, thing))
        self.assertEqual(found, {None, "shape", "family", "twice", "start"})

    def test_just_one_paper(self):
        papers = sorted({family_paper(rule, machine) for rule, machine in EACH[::4]})
        for rule, machine in EACH[::12]:
            accepted = []
            for paper in papers:
                try:
                    lets_family(rule, machine, paper)
                    accepted.append(paper)
                except InvalidPaper:
                    self.judge(rule, machine, paper)
            self.assertEqual(accepted, [family_paper(rule, machine)])

    def test_longer_and_shorter_ones(self):
        for rule, machine in EACH[::4]:
            _, families, start = family_paper(rule, machine)
            again = families + families[start:]
            for many in range(1, min(len(families), 20)):
                for back in range(many + 1):
                    self.judged("start", -1, lets_family, rule, machine, ("family", families[:many], back))
            for many in range(len(families) + 1, len(again) + 1):
                self.judged("twice", len(families), lets_family, rule, machine, ("family", again[:many], start))
            for back in range(len(families) + 2):
                if back != start:
                    self.judged("start", -1, lets_family, rule, machine, ("family", families, back))

    def test_shape(self):
        families = PAPER[1]
        wrong = NO_TUPLES + (
            (), ("family",), ("family", families), PAPER + (0,), list(PAPER), (0,) + PAPER[1:], ("Family",) + PAPER[1:],
            (["family"],) + PAPER[1:], (("family",),) + PAPER[1:], ("family", (), 0), ("family", list(families), 2),
            ("family", None, 2), ("family", "family", 2), ("family", 0, 2), (OBJECTS[0],) + PAPER[1:],
        ) + tuple(("family", families, value) for value in NO_NUMBERS)
        for thing in wrong:
            self.judged("shape", -1, lets_family, THUE, TURN, thing)

    def test_entries(self):
        for value in NO_TUPLES + ((), ((0, 1),), ONE + ((0, 1),), ((0, 1), (1, False)), ((0, True), (1, 0)), [(0, 1), (1, 0)],
                                  ([0, 1], (1, 0)), TWO, THREE, ((0, 1), (1, 0, 0)), ((0, 1), None), (0, 1)):
            self.judged("family", 0, lets_family, THUE, TURN, ("family", (value, TWO, THREE), 2))
        self.judged("family", 1, lets_family, THUE, TURN, ("family", (ONE, ONE, THREE), 9))
        self.judged("family", 2, lets_family, THUE, TURN, ("family", (ONE, TWO, ((0, 1), (0, True))), 2))
        self.judged("twice", 3, lets_family, THUE, TURN, ("family", (ONE, TWO, THREE, THREE, None), 2))
        self.judged("family", 3, lets_family, THUE, TURN, ("family", (ONE, TWO, THREE, None), 2))
        for start in (0, 1, 3, 10 ** 59):
            self.judged("start", -1, lets_family, THUE, TURN, ("family", (ONE, TWO, THREE), start))
        self.exactly(lets_family(GOLD, COUNT, family_paper(GOLD, COUNT)), (0, 8))
        # What is True in the place of 1 is no start.
        swap = (((1, 0),), ((0, 0),))
        self.exactly(lets_family(((0, 0),), swap, ("family", (((1, 0),), ((0, 1),)), 1)), (1, 1))
        self.judged("shape", -1, lets_family, ((0, 0),), swap, ("family", (((1, 0),), ((0, 1),)), True))

    def test_refusals(self):
        wrong = {"rule": NO_RULES, "machine": no_fitting(2)}
        for rule in (THUE, GOLD, ((0, 1), (1, 1))):
            self.refuses_each(family_paper, {"rule": rule, "machine": TURN}, wrong)
        self.refuses_each(lets_family, {"rule": THUE, "machine": TURN, "thing": PAPER}, wrong)
        for value in no_fitting(2):
            self.refused("machine", lets_family, THUE, value, None)


if __name__ == "__main__":
    unittest.main()
