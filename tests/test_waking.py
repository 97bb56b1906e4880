"""[45], [47]: in which standings a machine may be, or may have woken."""

import itertools
import unittest

from ledalong.leading import leads
from ledalong.waking import now_in, standings_behind, woke_as
from tests import plain
from tests.samples import (LAST, MACHINES, NO_MACHINES, SLOW, TURN, Case, no_answers, no_sets, no_words, some_machines,
                           words_over)

EACH = tuple(machine for letters in (1, 2, 3, 4) for machine in some_machines(letters)) + MACHINES


class Waking(Case):

    def test_standings_behind(self):
        for machine in EACH:
            for word in words_over(len(machine[0]), 3 if len(machine[0]) < 3 else 2):
                for standings in plain.subsets(len(machine)):
                    goals = sorted({plain.run(machine, q, word)[0] for q in standings})
                    self.exactly(standings_behind(machine, standings, word), tuple(goals))

    def test_each_tuple_of_answers(self):
        for machine in EACH:
            letters = len(machine[0])
            for word in words_over(letters, 4 if letters == 2 else 2):
                runs = [plain.run(machine, q, word) for q in range(len(machine))]
                for answers in sorted({told for _, told in runs}):
                    woke = tuple(q for q, (_, told) in enumerate(runs) if told == answers)
                    goals = tuple(sorted({goal for goal, told in runs if told == answers}))
                    self.exactly(woke_as(machine, word, answers), woke)
                    self.exactly(now_in(machine, word, answers), goals)

    def test_all_short_tuples_of_answers(self):
        for machine in (TURN, LAST, SLOW) + tuple(some_machines(2)):
            for word in words_over(2, 3):
                found = []
                for answers in itertools.product(range(4), repeat=len(word)):
                    woke = woke_as(machine, word, answers)
                    found.extend(woke)
                    self.exactly(now_in(machine, word, answers), tuple(sorted({leads(machine, q, word) for q in woke})))
                # Each standing gives just one tuple of answers.
                self.assertEqual(sorted(found), list(range(len(machine))))

    def test_edges(self):
        for machine in EACH:
            everything = tuple(range(len(machine)))
            self.exactly(standings_behind(machine, (), (0, 0)), ())
            self.exactly(standings_behind(machine, everything, ()), everything)
            self.exactly((woke_as(machine, (), ()), now_in(machine, (), ())), (everything, everything))
            self.exactly(woke_as(machine, (0,), (98,)), ())
            self.exactly(now_in(machine, (0, 0), (98, 0)), ())
        self.exactly(woke_as(TURN, (0, 1), (10 ** 59, 0)), ())
        self.exactly(woke_as((((0, 10 ** 59),),), (0,), (10 ** 59,)), (0,))
        self.exactly(now_in((((0, 1),), ((0, 1),)), (0,), (1,)), (0,))

    def test_refusals(self):
        wrong = {"machine": NO_MACHINES, "standings": no_sets(2), "word": no_words(2), "answers": no_answers(2)}
        right = {"machine": TURN, "standings": (0, 1), "word": (0, 1)}
        self.refuses_each(standings_behind, right, wrong)
        for function in (woke_as, now_in):
            self.refuses_each(function, {"machine": TURN, "word": (0, 1), "answers": (0, 1)}, wrong)
            self.refuses_each(function, {"machine": TURN, "word": (0, 1), "answers": (7, 7)}, wrong)
            self.refused("answers", function, LAST, (), (0,))
            self.refused("answers", function, LAST, (0,), ())
        self.refused("standings", standings_behind, TURN, (0, 2), (0,))
        self.refused("standings", standings_behind, (((0, 0),),), (1,), (0,))
        self.refused("word", standings_behind, TURN, (), (2,))


if __name__ == "__main__":
    unittest.main()
