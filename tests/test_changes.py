"""[18], [19], [20]: machines that are changed."""

import itertools
import unittest

from ledalong.changes import answers_renamed, cut_to, led_behind, letters_by, standings_renamed
from ledalong.kinds import is_machine
from tests import plain
from tests.samples import (LAST, MACHINES, NO_MACHINES, NO_NUMBERS, NO_TUPLES, SLOW, TURN, Case, no_below, no_words,
                           words_over)


class Changes(Case):

    def test_standings_renamed(self):
        for machine in MACHINES:
            for order in itertools.permutations(range(len(machine))):
                other = standings_renamed(machine, order)
                self.assertTrue(is_machine(other))
                for k, q in enumerate(order):
                    for word in words_over(len(machine[0]), 3):
                        goal, answers = plain.run(machine, q, word)
                        self.exactly(plain.run(other, k, word), (order.index(goal), answers))

    def test_cut_to(self):
        pair = (((0, 5), (0, 1)), ((2, 6), (1, 0)), ((1, 7), (2, 2)), ((0, 8), (3, 9)))
        self.exactly(cut_to(pair, (0,)), (((0, 5), (0, 1)),))
        self.exactly(cut_to(pair, (1, 2)), (((1, 6), (0, 0)), ((0, 7), (1, 2))))
        self.exactly(cut_to(pair, (0, 3)), (((0, 5), (0, 1)), ((0, 8), (1, 9))))
        self.exactly(cut_to(pair, (0, 1, 2)), (((0, 5), (0, 1)), ((2, 6), (1, 0)), ((1, 7), (2, 2))))
        for machine in MACHINES:
            self.exactly(cut_to(machine, tuple(range(len(machine)))), machine)
        for left in ((1,), (2,), (3,), (1, 3), (2, 3), (1, 2, 3), (0, 1), (0, 2), (0, 2, 3)):
            self.refused("standings", cut_to, pair, left)

    def test_answers_renamed(self):
        self.exactly(answers_renamed(TURN, ()), TURN)
        self.exactly(answers_renamed(TURN, ((5, 6),)), TURN)
        self.exactly(answers_renamed(TURN, ((1, 0),)), (((0, 0), (1, 0)), ((1, 0), (0, 0))))
        self.exactly(answers_renamed(TURN, ((0, 1), (1, 0))), (((0, 1), (1, 1)), ((1, 0), (0, 0))))
        self.exactly(answers_renamed(TURN, ((1, 2), (0, 1), (2, 9))), (((0, 1), (1, 1)), ((1, 2), (0, 2))))
        self.exactly(answers_renamed((((0, 3),),), ((3, 10 ** 59),)), (((0, 10 ** 59),),))

    def test_letters_by(self):
        for machine in MACHINES:
            words = tuple(word for word in words_over(len(machine[0]), 3) if word)
            other = letters_by(machine, words)
            self.exactly((len(other), len(other[0])), (len(machine), len(words)))
            for q in range(len(machine)):
                for k, word in enumerate(words):
                    goal, answers = plain.run(machine, q, word)
                    self.exactly(other[q][k], (goal, answers[-1]))
        self.exactly(letters_by(TURN, ((1,),)), (((1, 0),), ((0, 1),)))

    def test_led_behind(self):
        for machine in MACHINES:
            for other in MACHINES:
                most = max(answer for standing in machine for _, answer in standing)
                if most >= len(other[0]):
                    self.refused("other", led_behind, machine, other)
                    continue
                both = led_behind(machine, other)
                many = len(other)
                for q in range(len(machine)):
                    for s in range(many):
                        for word in words_over(len(machine[0]), 3):
                            goal, answers = plain.run(machine, q, word)
                            late, told = plain.run(other, s, answers)
                            self.exactly(plain.run(both, q * many + s, word), (goal * many + late, told))

    def test_three_machines(self):
        for one, two, three in itertools.product((TURN, LAST, SLOW), repeat=3):
            self.exactly(led_behind(led_behind(one, two), three), led_behind(one, led_behind(two, three)))

    def test_refusals(self):
        orders = NO_TUPLES + ((), (0,), (0, 0), (1, 1), (0, 2), (0, 1, 2), (0, 1, 1), (1, 0, 0), (True, 0), (0, True))
        orders += ((-1, 0), (1, None))
        self.refuses_each(standings_renamed, {"machine": TURN, "order": (1, 0)}, {"machine": NO_MACHINES, "order": orders})
        sets = NO_TUPLES + ((), (1, 0), (0, 0), (0, 2), (2,), (-1,), (True,), (0, True), (None,), ("0",), (0, 1, 1), (1,))
        sets += ((0, 2, 1), (2, 1, 0), (0, 1, 2, 2), (0, 0, 1, 2), (0, 1, 2, 3), (0, 1, True))
        self.refuses_each(cut_to, {"machine": SLOW, "standings": (0, 1, 2)}, {"machine": NO_MACHINES, "standings": sets})
        pairs = NO_TUPLES + ((0,), ((),), ((0,),), ((0, 1, 2),), ([0, 1],), ((0, 1), (0, 1)), ((0, 1), (2, 3), (0, 2)))
        pairs += tuple(((value, 1),) for value in NO_NUMBERS) + tuple(((0, 1), (1, value)) for value in NO_NUMBERS)
        self.refuses_each(answers_renamed, {"machine": TURN, "answers": ((0, 1),)},
                          {"machine": NO_MACHINES, "answers": pairs})
        lots = NO_TUPLES + ((), ((),), ((0,), ())) + tuple((word,) for word in no_words(2))
        lots += tuple(((0,), word) for word in no_words(2))
        self.refuses_each(letters_by, {"machine": TURN, "words": ((0,),)}, {"machine": NO_MACHINES, "words": lots})
        self.refuses_each(led_behind, {"machine": TURN, "other": LAST}, {"machine": NO_MACHINES, "other": NO_MACHINES})
        for letter in no_below(2):
            self.refused("words", letters_by, LAST, ((0, 1), (0, letter)))
        self.refused("other", led_behind, TURN, (((0, 0),),))
        self.refused("other", led_behind, (((0, 2),),), TURN)


if __name__ == "__main__":
    unittest.main()
