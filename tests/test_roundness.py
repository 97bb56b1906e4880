"""[32], [33], [34]: rules that come round, and papers on it."""

import unittest

from ledalong.errors import InvalidPaper
from ledalong.roundness import comes_round, lets_round, round_paper
from ledalong.worlds import words_of
from tests import plain
from tests.samples import (BRANCHING, GOLD, GROWING, NO_GROWING, NO_INTEGERS, ROUND, THUE, Case, no_below, no_words,
                           words_over)
from tests.test_worlds import no_words_of, some_rules, world

BRANCH = ("branch", 1, (0,), (((0,), (1,)),), 0)


def plain_round(rule, word):
    """Whether the words with one letter more are just those in the word again and again."""
    many = len(word) + 1
    row = word * 3
    return {row[at:at + many] for at in range(len(word))} == {part for part in plain.world(rule, many) if len(part) == many}


def plain_step(blocks, pair, behind):
    """Whether the rests of what becomes of a pair begin with the pair behind it."""
    one, other = (plain.spread(blocks, word) for word in pair)
    while one and other and one[0] == other[0]:
        one, other = one[1:], other[1:]
    fits = [one[:len(u)] == u and other[:len(v)] == v for u, v in (behind, behind[::-1])]
    return any(fits)


def with_place(paper, at, value):
    """The paper with another value at a place."""
    return paper[:at] + (value,) + paper[at + 1:]


class Roundness(Case):

    def test_comes_round(self):
        for rule, word in ROUND:
            self.exactly(comes_round(rule), word)
        for rule in BRANCHING:
            self.assertIsNone(comes_round(rule))

    def test_round_papers(self):
        for rule in list(GROWING) + [rule for rule in some_rules(80) if plain.does_grow(rule) is not None]:
            paper = round_paper(rule)
            self.assertIs(lets_round(rule, paper), comes_round(rule) is not None)
            if paper[0] == "round":
                self.exactly(len(paper), 2)
                self.assertTrue(plain_round(rule, paper[1]))
                continue
            _, n, begin, pairs, back = paper
            self.assertTrue(1 <= n <= 4 and plain.stands(begin[:1], begin) == 0)
            blocks = [plain.block(rule, a, n) for a in range(len(rule))]
            for pair, behind in zip(pairs, pairs[1:] + (pairs[back],)):
                self.assertTrue(plain_step(blocks, pair, behind))

    def test_each_word_as_a_round_paper(self):
        for rule in GROWING:
            for word in sorted(world(rule))[1:200]:
                if len(word) < 6:
                    if plain_round(rule, word):
                        self.assertIs(lets_round(rule, ("round", word)), True)
                    else:
                        self.judged("other", -1, lets_round, rule, ("round", word))

    def test_turns_taken_once_or_several_times(self):
        for rule, word in ROUND:
            turns = {word[at:] + word[:at] for at in range(len(word))}
            for times in (1, 2, 3, 7):
                for turn in turns:
                    self.assertIs(lets_round(rule, ("round", turn * times)), True)
                    if len(turn) > 1:
                        self.judged("other", -1, lets_round, rule, ("round", turn * times + turn[:1]))
            self.exactly(sorted(turns), sorted(words_of(rule, len(word))))
            self.judged("repeated", -1, lets_round, rule, ("round", word[::-1] + word[-1:] * 3 + (9,)))

    def test_what_is_no_paper(self):
        for rule in (GOLD, THUE, ((0, 1), (0, 1))):
            for thing in NO_INTEGERS + (0, -1, "round", "branch", ("round",), ("branch",), ("round", (0, 1), 0), (0, (0, 1)),
                                        ("Round", (0, 1)), ["round", (0, 1)], ("branch", (0, 1)), ("branch",) + BRANCH,
                                        ("round",) + BRANCH[1:], BRANCH[:4], BRANCH + (0,), list(BRANCH), (True, (0, 1)),
                                        (("round",), (0, 1)), (["round"], (0, 1)), ("", 1, (0,), (((0,), (1,)),), 0)):
                self.judged("shape", -1, lets_round, rule, thing)

    def test_no_round_papers(self):
        rule = ((0, 1), (0, 1))
        for word in no_words(2) + ((), (0, 0), (1, 1), (0, 1, 1), (1, 0, 0, 1)):
            self.judged("repeated", -1, lets_round, rule, ("round", word))
        for word in ((0,), (1,), (0, 1, 0), (1, 0, 1, 0, 1)):
            self.judged("other", -1, lets_round, rule, ("round", word))
        self.judged("other", -1, lets_round, THUE, ("round", (0, 1)))
        self.judged("other", -1, lets_round, THUE, ("round", plain.block(THUE, 0, 6)[:40]))
        self.judged("other", -1, lets_round, GOLD, ("round", (0,)))

    def test_branch_entries(self):
        self.assertIs(lets_round(THUE, BRANCH), False)
        for value in NO_INTEGERS + (0, -1, 5, 10 ** 59):
            self.judged("power", -1, lets_round, THUE, with_place(BRANCH, 1, value))
        for value in no_words_of(THUE) + ((),):
            self.judged("begin", -1, lets_round, THUE, with_place(BRANCH, 2, value))
        for value in (None, True, 0, "", [], (), [((0,), (1,))], "pairs"):
            self.judged("pairs", -1, lets_round, THUE, with_place(BRANCH, 3, value))
        right = ((0,), (1,))
        wrong = [None, 0, (), ((0,),), ((0,), (1,), (0,)), [(0,), (1,)], ((), (1,)), ((0,), ()), ((0,), (0,)), ((0, 1), (0, 0))]
        wrong += [(word, (1,)) for word in no_words(2)] + [((0,), word) for word in no_words(2)]
        for value in wrong:
            self.judged("pair", 0, lets_round, THUE, with_place(BRANCH, 3, (value,)))
            self.judged("pair", 1, lets_round, THUE, with_place(BRANCH, 3, (right, value, None)))
        for value in no_below(1):
            self.judged("next", -1, lets_round, THUE, with_place(BRANCH, 4, value))

    def test_branch_first(self):
        self.judged("first", -1, lets_round, THUE, ("branch", 1, (0, 0), (((0,), (1,)),), 0))
        self.judged("first", -1, lets_round, THUE, ("branch", 1, (0,), (((1, 1, 1), (0,)),), 0))
        self.judged("first", -1, lets_round, THUE, ("branch", 1, (0,), (((0,), (1, 1, 1)),), 0))
        self.judged("first", -1, lets_round, GOLD, ("branch", 1, (1,), (((0, 1), (1, 0)),), 0))
        self.assertIs(lets_round(THUE, ("branch", 1, (1, 0), (((0,), (1,)),), 0)), False)

    def test_branch_steps(self):
        both = (((0, 1), (1, 0)), ((1, 0), (0, 1)))
        for back in (0, 1):
            self.assertIs(lets_round(GOLD, ("branch", 1, (0,), both, back)), False)
        for n in (1, 2, 3, 4):
            for rule, begin, word in ((THUE, (0,), (((0,), (1,)),)), (GOLD, (0,), both[:1])):
                self.assertIs(lets_round(rule, ("branch", n, begin, word, 0)), False)
        self.judged("step", 0, lets_round, GOLD, ("branch", 1, (0,), (((0,), (1,)),), 0))
        self.judged("step", 1, lets_round, GOLD, ("branch", 1, (0,), (((0, 1), (1, 0)), ((1, 0), (0,))), 0))
        self.judged("step", 0, lets_round, GOLD, ("branch", 1, (0,), (both[0], ((0, 1), (1, 0, 0, 0, 0))), 1))
        self.judged("step", 0, lets_round, THUE, ("branch", 1, (0,), (((0,), (1,)), ((0, 0), (1, 1))), 0))
        # Both rests begin with the first word's letters, none with those of the second one.
        self.judged("step", 0, lets_round, THUE, ("branch", 1, (0,), (((0, 1), (1, 0)), ((0, 1), (1, 1))), 0))
        self.judged("step", 0, lets_round, THUE, ("branch", 1, (0,), (((0, 1), (1, 0)), ((0, 0), (1, 0))), 0))
        chain = (((0,), (1,)), ((1, 0), (0, 1)), ((0, 1, 1), (1, 0, 0)))
        self.assertIs(lets_round(THUE, ("branch", 1, (0,), chain, 2)), False)
        self.assertIs(lets_round(THUE, ("branch", 2, (0,), chain, 1)), False)

    def test_all_short_branch_papers(self):
        words = [word for word in words_over(2, 2) if word]
        for rule in (GOLD, THUE, ((0, 1), (0, 1)), ((1,), (1, 0, 0))):
            for n in (1, 2):
                blocks = [plain.block(rule, a, n) for a in (0, 1)]
                for one in words:
                    for other in words:
                        if one[0] == other[0]:
                            continue
                        paper = ("branch", n, (0,), ((one, other),), 0)
                        if not {(0,) + one, (0,) + other} <= world(rule):
                            self.judged("first", -1, lets_round, rule, paper)
                        elif plain_step(blocks, (one, other), (one, other)):
                            self.assertIs(lets_round(rule, paper), False)
                        else:
                            self.judged("step", 0, lets_round, rule, paper)

    def test_order_of_entries(self):
        self.judged("power", -1, lets_round, THUE, ("branch", 0, (), (), -1))
        self.judged("begin", -1, lets_round, THUE, ("branch", 1, (), (), -1))
        self.judged("pairs", -1, lets_round, THUE, ("branch", 1, (0,), (), -1))
        self.judged("pair", 0, lets_round, THUE, ("branch", 1, (0,), (0, 0), -1))
        self.judged("next", -1, lets_round, THUE, ("branch", 1, (0, 0), (((0,), (1,)),), 1))
        self.judged("first", -1, lets_round, THUE, ("branch", 1, (0, 0), (((0, 0, 0), (1, 1, 1)),), 0))

    def test_other_rules_papers(self):
        papers = [round_paper(rule) for rule in GROWING]
        for rule in GROWING:
            for paper in papers:
                try:
                    self.assertIs(lets_round(rule, paper), comes_round(rule) is not None)
                except InvalidPaper:
                    pass

    def test_refusals(self):
        for function in (comes_round, round_paper):
            self.refuses_each(function, {"rule": GOLD}, {"rule": NO_GROWING})
        self.refuses_each(lets_round, {"rule": THUE, "thing": BRANCH}, {"rule": NO_GROWING})
        for rule in NO_GROWING:
            self.refused("rule", lets_round, rule, None)


if __name__ == "__main__":
    unittest.main()
