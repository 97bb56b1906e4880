"""[63], [64], [66]: papers on the memory of a machine along a rule, and their checker."""

import unittest

from ledalong.errors import InvalidPaper
from ledalong.families import start_of
from ledalong.forgetchecker import lets_forget
from ledalong.forgetpapers import forget_paper
from ledalong.worlds import legal_pairs
from tests import plain
from tests.samples import (GOLD, LAST, NO_GROWING, NO_NUMBERS, NO_TUPLES, OBJECTS, THUE, TURN, Case, no_fitting)
from tests.test_families import plain_at
from tests.test_forgetting import HOLD, LATE, PAIRS, TRIO, plain_memory, rows_of
from tests.test_likepapers import changed
from tests.test_worlds import no_words_of

APART = (((0, 0), (0, 0)), ((1, 0), (0, 0)), ((1, 0), (2, 0)))


def is_plain_word(rule, thing):
    """Whether any value is a word of the rule with few letters."""
    if type(thing) is not tuple or not all(type(a) is int for a in thing):
        return False
    return thing in rows_of(rule)[len(thing)]


def plain_fault(rule, machine, thing):
    """The first entry of the list that applies to any value, or None; words have few letters."""
    if type(thing) is not tuple or len(thing) != 3 or thing[0] != "rank":
        return "shape", -1
    _, level, word = thing
    if type(level) is not int or level < 0:
        return "level", -1
    if not is_plain_word(rule, word):
        return "word", -1
    rank = len(set(plain.goals(machine, word)))
    family = plain_at(rule, machine, level)
    for a in range(len(rule)):
        if len(set(family[a])) != rank:
            return "block", a
    for a, b in rows_of(rule)[2]:
        if len({family[b][goal] for goal in family[a]}) != rank:
            return "pair", (a, b)
    return None


class ForgetPapers(Case):

    def judge(self, rule, machine, thing):
        """What the judge tells is what the slow judge does."""
        fault = plain_fault(rule, machine, thing)
        return self.as_told(fault, plain_memory(rule, machine), lets_forget, rule, machine, thing)

    def test_papers(self):
        for rule, machine in PAIRS:
            paper = forget_paper(rule, machine)
            self.exactly((type(paper), len(paper), paper[0], type(paper[1]), type(paper[2])), (tuple, 3, "rank", int, tuple))
            self.exactly(lets_forget(rule, machine, paper), plain_memory(rule, machine))
            self.exactly(lets_forget(rule=rule, machine=machine, thing=paper), plain_memory(rule, machine))
            if len(paper[2]) <= 12:
                self.assertIsNone(plain_fault(rule, machine, paper))

    def test_papers_where_delays_are_long(self):
        for machine in ((((0, 0), (1, 0), (1, 0), (0, 0)), ((0, 1), (0, 0), (0, 1), (1, 0))),
                        (((0, 1), (1, 1), (0, 1), (0, 1)), ((1, 0), (0, 0), (1, 0), (0, 1)))):
            self.assertIn(lets_forget(LATE, machine, forget_paper(LATE, machine)), (1, 2))

    def test_low_levels_by_blocks(self):
        for rule, machine in PAIRS[::5]:
            for level in range(4):
                blocks = [plain.block(rule, a, level) for a in range(len(rule))]
                if sum(len(block) for block in blocks) > 300:
                    break
                for word in [row[0] for row in rows_of(rule)[:6]]:
                    rank = len(set(plain.goals(machine, word)))
                    ranks = [len(set(plain.goals(machine, block))) for block in blocks]
                    both = {pair: len(set(plain.goals(machine, blocks[pair[0]] + blocks[pair[1]]))) for pair in legal_pairs(rule)}
                    if any(other != rank for other in ranks):
                        first = [other == rank for other in ranks].index(False)
                        self.judged("block", first, lets_forget, rule, machine, ("rank", level, word))
                    elif any(other != rank for other in both.values()):
                        pair = min(pair for pair, other in both.items() if other != rank)
                        self.judged("pair", pair, lets_forget, rule, machine, ("rank", level, word))
                    else:
                        self.exactly(lets_forget(rule, machine, ("rank", level, word)), rank)

    def test_papers_with_one_thing_otherwise(self):
        found = set()
        for rule, machine in PAIRS[::7] + [(THUE, APART), (GOLD, APART), (THUE, HOLD)]:
            paper = forget_paper(rule, machine)
            if len(paper[2]) < 9:
                for thing in changed(paper, (0, 1, 2, True, False, (), (0,), (0, 1), None)):
                    found.add(self.judge(rule, machine, thing))
                for level in range(4):
                    for row in rows_of(rule)[:4]:
                        for word in row:
                            found.add(self.judge(rule, machine, ("rank", level, word)))
        self.assertEqual(found, {None, "shape", "level", "word", "block", "pair"})

    def test_papers_of_other_rules_and_machines(self):
        papers = [forget_paper(rule, machine) for rule, machine in PAIRS[::9]]
        for rule, machine in PAIRS[::25]:
            for paper in papers:
                try:
                    self.exactly(lets_forget(rule, machine, paper), plain_memory(rule, machine))
                except InvalidPaper:
                    pass

    def test_any_level_from_the_start_on(self):
        for rule, machine in PAIRS[::6]:
            _, level, word = forget_paper(rule, machine)
            start = start_of(rule, machine)
            for far in (start, start + 1, 200, 10 ** 59):
                self.exactly(lets_forget(rule, machine, ("rank", far, word)), plain_memory(rule, machine))

    def test_shape_level_word(self):
        wrong = NO_TUPLES + ((), ("rank",), ("rank", 1), ("rank", 1, (0,), 0), ["rank", 1, (0,)], (0, 1, (0,)), ("Rank", 1, (0,)),
                             (["rank"], 1, (0,)), (("rank",), 1, (0,)), ("", 1, (0,)), (OBJECTS[0], 1, (0,)), (None, None, None))
        for thing in wrong:
            self.judged("shape", -1, lets_forget, THUE, HOLD, thing)
        for level in NO_NUMBERS:
            self.judged("level", -1, lets_forget, THUE, HOLD, ("rank", level, None))
        for word in no_words_of(THUE):
            self.judged("word", -1, lets_forget, THUE, HOLD, ("rank", 0, word))

    def test_blocks_and_pairs(self):
        self.exactly(lets_forget(THUE, HOLD, ("rank", 1, (0,))), 1)
        self.judged("block", 0, lets_forget, THUE, HOLD, ("rank", 1, ()))
        self.judged("block", 0, lets_forget, THUE, HOLD, ("rank", 0, (1,)))
        self.judged("block", 0, lets_forget, THUE, TRIO, ("rank", 5, ()))
        self.exactly(lets_forget(GOLD, TURN, ("rank", 0, ())), 2)
        self.exactly(lets_forget(GOLD, LAST, ("rank", 0, (1,))), 1)
        self.judged("pair", (0, 1), lets_forget, THUE, APART, ("rank", 0, (0,)))
        self.exactly([lets_forget(THUE, APART, ("rank", 2, word)) for word in ((0, 1), (0, 1, 1))], [1, 1])
        self.judged("block", 0, lets_forget, THUE, APART, ("rank", 2, (1, 0)))
        self.judged("block", 1, lets_forget, GOLD, HOLD, ("rank", 0, (0,)))
        # The legal pairs of GOLD are (0, 0), (0, 1), (1, 0): of both letters and the first two the rank is 2, not of the last one.
        gone = (((0, 0), (0, 0)), ((0, 0), (1, 0)), ((2, 0), (1, 0)))
        self.judged("pair", (1, 0), lets_forget, GOLD, gone, ("rank", 0, (0,)))
        self.judged("block", 0, lets_forget, GOLD, gone, ("rank", 0, (1, 0)))

    def test_refusals(self):
        wrong = {"rule": NO_GROWING, "machine": no_fitting(2)}
        for rule, machine in ((THUE, HOLD), (GOLD, TRIO)):
            self.refuses_each(forget_paper, {"rule": rule, "machine": machine}, wrong)
        self.refuses_each(lets_forget, {"rule": THUE, "machine": HOLD, "thing": ("rank", 1, (0,))}, wrong)
        for value in no_fitting(2):
            self.refused("machine", lets_forget, THUE, value, None)
        for value in NO_GROWING:
            self.refused("rule", lets_forget, value, HOLD, None)


if __name__ == "__main__":
    unittest.main()
