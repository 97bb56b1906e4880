"""[48], [50]: standings that are alike, and sets of standings that no letter leaves."""

import itertools
import unittest

from ledalong.likeness import alike_standings, closed_sets, homing_word, is_closed_set, merged, parting
from ledalong.replacing import are_alike
from tests import plain
from tests.samples import (LAST, MACHINES, NO_MACHINES, SLOW, TURN, Case, no_below, no_sets, some_machines, words_over)

ROUND, STILL = (((1, 0),), ((2, 1),), ((3, 0),), ((0, 1),)), (((0, 0),), ((1, 1),))
EACH = tuple(machine for letters in (1, 2, 3, 4) for machine in some_machines(letters)) + MACHINES + (ROUND, STILL)


def plain_classes(machine):
    """All classes, by the answers to all words with at most as many letters as there are standings."""
    found = {}
    words = words_over(len(machine[0]), len(machine))
    for q in range(len(machine)):
        found.setdefault(tuple(plain.run(machine, q, word)[1] for word in words), []).append(q)
    return tuple(sorted(tuple(lot) for lot in found.values()))


def leaves_none(machine, lot):
    """Whether no letter leads out of a lot of standings."""
    return all(machine[q][a][0] in lot for q in lot for a in range(len(machine[0])))


def is_homing(machine, classes, word):
    """Whether behind the word the answers tell the class."""
    told = {}
    for q in range(len(machine)):
        goal, answers = plain.run(machine, q, word)
        told.setdefault(answers, set()).add([goal in lot for lot in classes].index(True))
    return all(len(lots) == 1 for lots in told.values())


class Likeness(Case):

    def test_classes(self):
        for machine in EACH:
            self.exactly(alike_standings(machine), plain_classes(machine))
            for lot in alike_standings(machine):
                for q in range(len(machine)):
                    self.assertEqual(plain.alike(machine, lot[0], machine, q), q in lot)

    def test_late_differences(self):
        # Only the fourth letter tells the first standings apart, and the third one the next.
        line = (((1, 0),), ((2, 0),), ((3, 0),), ((3, 1),))
        self.exactly(alike_standings(line), ((0,), (1,), (2,), (3,)))
        self.exactly([parting(line, 0, 1), parting(line, 1, 2), parting(line, 2, 3), parting(line, 3, 0)],
                     [(0, 0, 0), (0, 0), (0,), (0,)])
        loop = (((1, 0),), ((2, 0),), ((0, 0),))
        self.exactly([alike_standings(loop), merged(loop)], [((0, 1, 2),), (((0, 0),),)])

    def test_merged(self):
        for machine in EACH:
            classes = alike_standings(machine)
            small = merged(machine)
            self.exactly(len(small), len(classes))
            for k, lot in enumerate(classes):
                for q in lot:
                    for a, (goal, answer) in enumerate(machine[q]):
                        self.exactly(small[k][a][1], answer)
                        self.assertIn(goal, classes[small[k][a][0]])
            self.exactly(merged(small), small)
            self.exactly(alike_standings(small), tuple((k,) for k in range(len(small))))
            self.assertIs(are_alike(small, machine), True)

    def test_parting(self):
        for machine in EACH:
            words = words_over(len(machine[0]), len(machine))
            for one, other in itertools.product(range(len(machine)), repeat=2):
                apart = [word for word in words if plain.run(machine, one, word)[1] != plain.run(machine, other, word)[1]]
                word = parting(machine, one, other)
                self.exactly(word, apart[0] if apart else None)
                self.assertEqual(word is None, any({one, other} <= set(lot) for lot in alike_standings(machine)))
                self.assertTrue(word is None or len(word) < len(machine))

    def test_homing_word(self):
        for machine in EACH:
            classes = plain_classes(machine)
            found = homing_word(machine)
            self.assertTrue(is_homing(machine, classes, found))
            for word in words_over(len(machine[0]), 5):
                if is_homing(machine, classes, word):
                    self.exactly(found, word)
                    break
            else:
                self.assertGreater(len(found), 5)

    def test_homing_words_of_single_machines(self):
        self.exactly([homing_word(machine) for machine in (TURN, LAST, STILL)], [(0,), (0,), (0,)])
        self.exactly(homing_word((((0, 5),),)), ())
        self.exactly(homing_word((((1, 5),), ((0, 5),))), ())
        # The answers to 0 tell nothing; those to 1 tell one standing, once 0 has turned the others to it.
        hidden = (((1, 0), (0, 1)), ((2, 0), (1, 0)), ((0, 0), (2, 0)))
        self.exactly(homing_word(hidden), (1, 0, 1))

    def test_closed_sets(self):
        for machine in EACH:
            closed = [lot for lot in plain.subsets(len(machine)) if leaves_none(machine, lot)]
            for lot in plain.subsets(len(machine)):
                self.assertIs(is_closed_set(machine, lot), lot in closed)
            full = [lot for lot in closed if lot]
            least = sorted(lot for lot in full if not any(set(other) < set(lot) for other in full))
            self.exactly(closed_sets(machine), tuple(least))
            for lot in full:
                self.assertTrue(any(set(other) <= set(lot) for other in least))
            for one, other in itertools.combinations(least, 2):
                self.assertFalse(set(one) & set(other))

    def test_edges(self):
        one = (((0, 3), (0, 4)),)
        self.exactly([alike_standings(one), merged(one), parting(one, 0, 0), homing_word(one)], [((0,),), one, None, ()])
        self.exactly([is_closed_set(one, ()), is_closed_set(one, (0,)), closed_sets(one)], [True, True, ((0,),)])
        self.exactly([is_closed_set(SLOW, ()), is_closed_set(SLOW, (0, 1, 2)), is_closed_set(SLOW, (2,))], [True, True, False])
        three = (((0, 0),), ((0, 0),), ((3, 0),), ((2, 0),), ((4, 0),))
        self.exactly(closed_sets(three), ((0,), (2, 3), (4,)))
        same = (((0, 4), (1, 4)), ((0, 4), (1, 4)))
        self.exactly([alike_standings(same), merged(same)], [((0, 1),), (((0, 4), (0, 4)),)])

    def test_many_standings(self):
        ring = tuple((((q + 1) % 60, 1 if q % 30 == 0 else 0),) for q in range(60))
        self.exactly(alike_standings(ring), tuple((q, q + 30) for q in range(30)))
        self.exactly(parting(ring, 1, 3), (0,) * 28)
        self.exactly(homing_word(ring), (0,) * 29)

    def test_refusals(self):
        for function in (alike_standings, merged, homing_word, closed_sets):
            self.refuses_each(function, {"machine": SLOW}, {"machine": NO_MACHINES})
        wrong = {"machine": NO_MACHINES, "one": no_below(2), "other": no_below(2), "standings": no_sets(2)}
        for machine in (TURN, LAST):
            self.refuses_each(parting, {"machine": machine, "one": 1, "other": 0}, wrong)
            self.refuses_each(is_closed_set, {"machine": machine, "standings": (1,)}, wrong)
        self.refused("other", parting, SLOW, 2, 3)
        self.refused("standings", is_closed_set, SLOW, (0, 3))


if __name__ == "__main__":
    unittest.main()
