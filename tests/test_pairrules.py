"""[67], [68], [69], [70], [71]: the rule of pairs."""

import functools
import unittest

from ledalong.errors import InvalidPaper
from ledalong.families import family_of, period_of, start_of
from ledalong.kinds import is_rule
from ledalong.pairrules import lets_pairs, pair_paper, pair_rule, pair_words
from tests import plain
from tests.samples import (GOLD, GROWING, LAST, NO_GROWING, NO_INTEGERS, NO_NUMBERS, NO_TUPLES, OBJECTS, SLOW, THUE, TURN, Case,
                           no_fitting, some_machines)
from tests.test_families import COUNT, plain_at, plain_families
from tests.test_likepapers import changed

ROWS = ((0, 2), (1, 3), (2, 0), (3, 1))
WORDS = ((0, 0, 1, 0), (1, 1, 0, 1), (0, 1, 1, 1), (1, 0, 0, 0))


def letters_together(rule, level):
    """How many letters the blocks of a level have together; more than thousands are not counted."""
    lengths = [1] * len(rule)
    for _ in range(level):
        lengths = [sum(lengths[b] for b in block) for block in rule]
        if sum(lengths) > 9999:
            break
    return sum(lengths)


def are_low(rule, machine):
    """Whether the blocks of the start and of the period are not too long to be written out."""
    found, start = plain_families(rule, machine)
    return letters_together(rule, start) <= 2000 and letters_together(rule, len(found) - start) <= 2000


PAIRS = [(rule, machine) for rule in GROWING for machine in some_machines(len(rule), 3)[::1 if len(rule) < 3 else 3]]
PAIRS += [(rule, machine) for rule in (THUE, GOLD) for machine in (TURN, LAST, SLOW, COUNT)]
PAIRS = [(rule, machine) for rule, machine in PAIRS if are_low(rule, machine)]


def plain_row(rule, machine, start, period, a, q):
    """The block of (a, q): blocks of the start, one behind the other, led along letter by letter."""
    row = []
    for b in plain.block(rule, a, period):
        row.append(b * len(machine) + q)
        q = plain.run(machine, q, plain.block(rule, b, start))[0]
    return tuple(row)


@functools.lru_cache(None)
def plain_paper(rule, machine, start, period):
    """The paper of a start and a period."""
    pairs = [(a, q) for a in range(len(rule)) for q in range(len(machine))]
    rows = tuple(plain_row(rule, machine, start, period, a, q) for a, q in pairs)
    return start, period, rows, tuple(plain.run(machine, q, plain.block(rule, a, start))[1] for a, q in pairs)


def is_exactly(thing, told):
    """Whether any value is a tuple of numbers, of the same kinds throughout."""
    return repr(thing) == repr(told)


def plain_fault(rule, machine, thing):
    """The first entry of the list that applies to any value, or None."""
    if type(thing) is not tuple or len(thing) != 4:
        return "shape", -1
    start, period, blocks, words = thing
    if type(start) is not int or start < 0 or type(period) is not int or period < 1:
        return "shape", -1
    if type(blocks) is not tuple or type(words) is not tuple:
        return "shape", -1
    if plain_at(rule, machine, start) != plain_at(rule, machine, start + period):
        return "levels", -1
    many = len(rule) * len(machine)
    if len(blocks) != many:
        return "blocks", -1
    if len(words) != many:
        return "words", -1
    _, _, rows, told = plain_paper(rule, machine, start, period)
    for k in range(many):
        if not is_exactly(blocks[k], rows[k]):
            return "block", k
    for k in range(many):
        if not is_exactly(words[k], told[k]):
            return "word", k
    return None


class PairRules(Case):

    def judge(self, rule, machine, thing):
        """What the judge tells is what the slow judge does."""
        fault = plain_fault(rule, machine, thing)
        return self.as_told(fault, len(rule) * len(machine), lets_pairs, rule, machine, thing)

    def test_many_cases(self):
        self.assertGreater(len(PAIRS), 200)
        rounds = {(min(start, 3), min(len(found) - start, 6)) for found, start in (plain_families(*pair) for pair in PAIRS)}
        self.assertGreater(len(rounds), 9)

    def test_rule_and_words(self):
        for rule, machine in PAIRS:
            found, start = plain_families(rule, machine)
            _, _, rows, words = plain_paper(rule, machine, start, len(found) - start)
            self.exactly(pair_rule(rule, machine), rows)
            self.exactly(pair_words(rule, machine), words)
            self.assertTrue(is_rule(rows))

    def test_answers_along_blocks(self):
        for rule, machine in PAIRS[::2]:
            rows, words = pair_rule(rule, machine), pair_words(rule, machine)
            start, period = start_of(rule, machine), period_of(rule, machine)
            for j in (0, 1, 2):
                if letters_together(rule, start + period * j) > 1500:
                    break
                for a in range(len(rule)):
                    block = plain.block(rule, a, start + period * j)
                    for q in range(len(machine)):
                        told = ()
                        for letter in plain.block(rows, a * len(machine) + q, j):
                            told += words[letter]
                        self.exactly(told, plain.run(machine, q, block)[1])

    def test_the_letters_of_the_rule_are_left(self):
        for rule, machine in PAIRS[::3]:
            rows, period = pair_rule(rule, machine), period_of(rule, machine)
            for j in (0, 1, 2):
                if letters_together(rule, period * j) > 1500:
                    break
                for letter in range(len(rows)):
                    left = tuple(late // len(machine) for late in plain.block(rows, letter, j))
                    self.exactly(left, plain.block(rule, letter // len(machine), period * j))

    def test_papers(self):
        for rule, machine in PAIRS:
            paper = pair_paper(rule, machine)
            self.exactly((type(paper), len(paper)), (tuple, 4))
            self.exactly(lets_pairs(rule, machine, paper), len(rule) * len(machine))
            self.exactly(lets_pairs(rule=rule, machine=machine, thing=paper), len(rule) * len(machine))
            self.assertIsNone(plain_fault(rule, machine, paper))

    def test_papers_that_are_not_the_least_ones(self):
        tried = 0
        for rule, machine in PAIRS[::2]:
            least, turn = start_of(rule, machine), period_of(rule, machine)
            for start in range(5):
                for period in range(1, 7):
                    if max(letters_together(rule, start), letters_together(rule, period)) > 600:
                        continue
                    paper = plain_paper(rule, machine, start, period)
                    if start >= least and period % turn == 0:
                        tried += 1
                        self.exactly(lets_pairs(rule, machine, paper), len(rule) * len(machine))
                    else:
                        self.judged("levels", -1, lets_pairs, rule, machine, paper)
        self.assertGreater(tried, 500)

    def test_papers_with_one_thing_otherwise(self):
        found = set()
        for rule, machine in [(THUE, TURN), (GOLD, LAST), (GOLD, TURN), (((0, 0),), (((1, 0),), ((0, 1),)))] + PAIRS[3::60]:
            paper = pair_paper(rule, machine)
            if sum(len(row) for row in paper[2] + paper[3]) < 60:
                for thing in changed(paper, (0, 1, 2, True, False, (), (0,), None)):
                    found.add(self.judge(rule, machine, thing))
        self.assertEqual(found, {None, "shape", "levels", "blocks", "words", "block", "word"})

    def test_papers_of_other_rules_and_machines(self):
        papers = [pair_paper(rule, machine) for rule, machine in PAIRS[::15]]
        for rule, machine in PAIRS[::30]:
            for paper in papers:
                if max(letters_together(rule, paper[0]), letters_together(rule, paper[1])) < 3000:
                    self.judge(rule, machine, paper)

    def test_shape(self):
        paper = (2, 1, ROWS, WORDS)
        self.exactly(lets_pairs(THUE, TURN, paper), 4)
        wrong = NO_TUPLES + ((), (2,), paper[:3], paper + (0,), list(paper), (2, 1, list(ROWS), WORDS), (2, 1, ROWS, list(WORDS)),
                             (2, 1, None, WORDS), (2, 1, ROWS, "0"), (OBJECTS[0], 1, ROWS, WORDS), (2, 1, OBJECTS[0], WORDS))
        for thing in wrong:
            self.judged("shape", -1, lets_pairs, THUE, TURN, thing)
        for value in NO_NUMBERS:
            self.judged("shape", -1, lets_pairs, THUE, TURN, (value, 1, ROWS, WORDS))
        for value in NO_INTEGERS + (0, -1, -10 ** 59):
            self.judged("shape", -1, lets_pairs, THUE, TURN, (2, value, ROWS, WORDS))

    def test_entries(self):
        for start, period in ((1, 1), (0, 1), (0, 2), (1, 5), (0, 10 ** 59)):
            self.judged("levels", -1, lets_pairs, THUE, TURN, (start, period, (), ()))
        for rows in ((), ROWS[:3], ROWS + ((0, 2),)):
            self.judged("blocks", -1, lets_pairs, THUE, TURN, (2, 1, rows, ()))
        for words in ((), WORDS[:3], WORDS + (WORDS[0],)):
            self.judged("words", -1, lets_pairs, THUE, TURN, (2, 1, ("no block",) * 4, words))
        for value in NO_TUPLES + ((), (1,), (1, 3, 1), (1, 2), (3, 1), (True, 3), (1, None), ("1", "3"), ((1,), 3)):
            self.judged("block", 1, lets_pairs, THUE, TURN, (2, 1, (ROWS[0], value, None, None), (None,) * 4))
        for value in NO_TUPLES + ((), (1, 1, 0), (1, 1, 0, 1, 0), (1, 1, 0, 0), (True, 1, 0, 1), (1, 1, False, 1), (1, 1, 0, None)):
            self.judged("word", 1, lets_pairs, THUE, TURN, (2, 1, ROWS, (WORDS[0], value, None, None)))
        self.judged("block", 3, lets_pairs, THUE, TURN, (2, 1, ROWS[:3] + ((1, 3),), WORDS))
        self.judged("word", 3, lets_pairs, THUE, TURN, (2, 1, ROWS, WORDS[:3] + (WORDS[0],)))

    def test_far_levels(self):
        # Blocks that are far too long are no blocks of the paper, and need not be written out.
        for start, period in ((2, 10 ** 59), (10 ** 59, 1), (200, 200)):
            self.judged("blocks", -1, lets_pairs, THUE, TURN, (start, period, (), ()))
        self.judged("block", 0, lets_pairs, THUE, TURN, (2, 200, ROWS, WORDS))
        self.judged("word", 0, lets_pairs, THUE, TURN, (200, 1, ROWS, WORDS))
        self.judged("word", 0, lets_pairs, THUE, TURN, (10 ** 59, 1, ROWS, WORDS))

    def test_edges(self):
        one = (((0, 3), (0, 4)),)
        self.exactly([pair_rule(GOLD, one), pair_words(GOLD, one), pair_paper(GOLD, one)],
                     [GOLD, ((3,), (4,)), (0, 1, GOLD, ((3,), (4,)))])
        self.exactly([pair_rule(((0, 0),), (((0, 3),),)), pair_words(((0, 0),), (((0, 3),),))], [((0, 0),), ((3,),)])
        # Start 0: each letter stands for one answer; with a start above it, for those along a block.
        self.exactly([start_of(GOLD, TURN), len(pair_words(GOLD, TURN)[0]), start_of(THUE, TURN), len(pair_words(THUE, TURN)[0])],
                     [0, 1, 2, 4])
        self.exactly([len(block) for block in pair_rule(GOLD, COUNT)], [55] * 3 + [34] * 3)
        self.exactly([family_of(GOLD, COUNT, 8) == family_of(GOLD, COUNT, 0)], [True])

    def test_refusals(self):
        wrong = {"rule": NO_GROWING, "machine": no_fitting(2)}
        for function in (pair_rule, pair_words, pair_paper):
            for rule, machine in ((THUE, TURN), (GOLD, LAST)):
                self.refuses_each(function, {"rule": rule, "machine": machine}, wrong)
        self.refuses_each(lets_pairs, {"rule": THUE, "machine": TURN, "thing": (2, 1, ROWS, WORDS)}, wrong)
        for value in no_fitting(2):
            self.refused("machine", lets_pairs, THUE, value, None)
        for value in NO_GROWING:
            self.refused("rule", lets_pairs, value, TURN, None)

    def test_other_papers_are_not_accepted(self):
        # For one start and one period there is one paper alone.
        for rule, machine in PAIRS[::40]:
            start, period, rows, words = pair_paper(rule, machine)
            for thing in ((start, period, rows[::-1], words), (start, period, rows, words[::-1]), (start, period, words, rows)):
                if thing != (start, period, rows, words):
                    with self.assertRaises(InvalidPaper):
                        lets_pairs(rule, machine, thing)


if __name__ == "__main__":
    unittest.main()
