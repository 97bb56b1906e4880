"""[51], [52], [53], [54]: families."""

import functools
import itertools
import unittest

from ledalong.families import block_map, family_of, level_of_family, period_of, start_of
from ledalong.changes import answers_renamed
from tests import plain
from tests.samples import (GOLD, LAST, NO_NUMBERS, NO_RULES, NO_TUPLES, RULES, SLOW, THUE, TURN, Case, no_below, no_fitting,
                           some_machines)

COUNT = (((1, 0), (0, 0)), ((2, 0), (1, 0)), ((0, 1), (2, 0)))
EACH = tuple((rule, machine) for rule in RULES for machine in some_machines(len(rule))[::2 if len(rule) > 2 else 1])
EACH += tuple((rule, machine) for rule in (THUE, GOLD) for machine in (TURN, LAST, SLOW, COUNT))
FAR = (10 ** 20, 10 ** 59, 10 ** 60 - 1)


def plain_family(rule, machine, level):
    """The family of a level, by blocks that are written out and walked letter by letter."""
    return tuple(plain.goals(machine, plain.block(rule, a, level)) for a in range(len(rule)))


@functools.lru_cache(None)
def plain_families(rule, machine):
    """The families ahead of the first one that comes again, and the level of the one that it is."""
    found = [plain_family(rule, machine, 0)]
    while True:
        late = []
        for block in rule:
            goals = list(range(len(machine)))
            for a in block:
                goals = [found[-1][a][q] for q in goals]
            late.append(tuple(goals))
        if tuple(late) in found:
            return found, found.index(tuple(late))
        found.append(tuple(late))


def plain_at(rule, machine, level):
    """The family of any level."""
    found, start = plain_families(rule, machine)
    while level >= len(found):
        level -= (len(found) - start) * max(1, (level - len(found)) // (len(found) - start))
    return found[level]


class FamilyTests(Case):

    def test_low_levels_by_blocks(self):
        for rule, machine in EACH:
            for level in range(9):
                if sum(len(plain.block(rule, a, level)) for a in range(len(rule))) > 700:
                    break
                family = plain_family(rule, machine, level)
                self.exactly(family_of(rule, machine, level), family)
                self.exactly([block_map(rule, machine, a, level) for a in range(len(rule))], list(family))
                self.exactly(plain_at(rule, machine, level), family)

    def test_start_and_period(self):
        for rule, machine in EACH:
            found, start = plain_families(rule, machine)
            self.exactly((start_of(rule, machine), period_of(rule, machine)), (start, len(found) - start))

    def test_levels_up_to_two_hundred(self):
        for rule, machine in EACH[::3]:
            found, start = plain_families(rule, machine)
            for level in (*range(20), 99, 100, 199, 200):
                self.exactly(family_of(rule, machine, level), plain_at(rule, machine, level))
        self.exactly([family_of(THUE, TURN, level) == family_of(THUE, TURN, 2) for level in range(5)],
                     [False, False, True, True, True])

    def test_far_levels(self):
        for rule, machine in EACH[::3]:
            start, period = start_of(rule, machine), period_of(rule, machine)
            for far in FAR:
                low = start + (far - start) % period
                for level in (far, far + 1, far + period):
                    self.exactly(family_of(rule, machine, level), family_of(rule, machine, low + level - far))
                self.exactly(block_map(rule, machine, len(rule) - 1, far), family_of(rule, machine, low)[-1])
        zeros = {0: 1, 1: 0}
        for level in range(40):
            self.exactly(block_map(GOLD, COUNT, 0, level)[0], zeros[0] % 3)
            zeros = {0: zeros[0] + zeros[1], 1: zeros[0]}

    def test_two_levels_have_the_same_family(self):
        for rule, machine in EACH[::5]:
            start, period = start_of(rule, machine), period_of(rule, machine)
            for one, other in itertools.product(range(min(14, start + 2 * period)), repeat=2):
                same = one == other or min(one, other) >= start and (one - other) % period == 0
                self.assertEqual(family_of(rule, machine, one) == family_of(rule, machine, other), same)

    def test_ranks_and_answers(self):
        for rule, machine in EACH[::3]:
            for level in range(5):
                ranks = [len(set(lead)) for lead in family_of(rule, machine, level)]
                for a, lead in enumerate(family_of(rule, machine, level + 1)):
                    self.assertLessEqual(len(set(lead)), min(ranks[b] for b in rule[a]))
            other = answers_renamed(machine, ((0, 5), (1, 99)))
            self.exactly((start_of(rule, other), period_of(rule, other)), (start_of(rule, machine), period_of(rule, machine)))
            self.exactly(family_of(rule, other, 3), family_of(rule, machine, 3))

    def test_level_of_family(self):
        for rule, machine in EACH:
            found, _ = plain_families(rule, machine)
            for level, family in enumerate(found[:30]):
                self.exactly(level_of_family(rule, machine, family), level)
            far = family_of(rule, machine, FAR[0])
            self.exactly(level_of_family(rule, machine, far), found.index(far))
        for rule, machine in ((THUE, TURN), (GOLD, TURN), (GOLD, LAST)):
            found, _ = plain_families(rule, machine)
            maps = list(itertools.product(range(2), repeat=2))
            for family in itertools.product(maps, maps):
                self.exactly(level_of_family(rule, machine, family), found.index(family) if family in found else None)

    def test_edges(self):
        one = (((0, 3), (0, 4)),)
        self.exactly([family_of(GOLD, one, 0), start_of(GOLD, one), period_of(GOLD, one), family_of(GOLD, one, FAR[2])],
                     [((0,), (0,)), 0, 1, ((0,), (0,))])
        self.exactly([level_of_family(GOLD, one, ((0,), (0,))), block_map(GOLD, one, 1, 0)], [0, (0,)])
        ring = (((1, 0),), ((2, 0),), ((3, 0),), ((0, 0),))
        self.exactly([(start_of(rule, ring), period_of(rule, ring)) for rule in (((0,),), ((0, 0),), ((0, 0, 0),))],
                     [(0, 1), (2, 1), (0, 2)])
        self.exactly(family_of(((0, 0),), ring, 1), ((2, 3, 0, 1),))
        # Rules that do not grow: letters by turns, and one whose blocks lead nowhere else.
        turns = ((1,), (2,), (0,))
        machine = (((0, 0), (1, 0), (1, 0)), ((1, 0), (0, 0), (1, 0)))
        self.exactly([(start_of(turns, machine), period_of(turns, machine)), family_of(turns, machine, 10 ** 59 + 1)],
                     [(0, 3), ((1, 1), (0, 1), (1, 0))])
        self.exactly((10 ** 59 + 1) % 3, 2)

    def test_low_levels_of_families_that_are_long_in_coming_round(self):
        # The families of this machine with twelve standings come round late; low levels are told all the same.
        cycle = tuple(range(1, 12)) + (0,)
        swap = (1, 0) + tuple(range(2, 12))
        great = tuple(((cycle[q], 0), (swap[q], 0)) for q in range(12))
        for level in range(7):
            self.exactly(family_of(GOLD, great, level), plain_family(GOLD, great, level))

    def test_refusals(self):
        wrong = {"rule": NO_RULES, "machine": no_fitting(2), "letter": no_below(2), "level": NO_NUMBERS}
        for rule, machine in ((THUE, TURN), (GOLD, COUNT), (((0, 1), (1, 1)), LAST)):
            self.refuses_each(family_of, {"rule": rule, "machine": machine, "level": 3}, wrong)
            self.refuses_each(block_map, {"rule": rule, "machine": machine, "letter": 1, "level": 10 ** 59}, wrong)
            for function in (start_of, period_of):
                self.refuses_each(function, {"rule": rule, "machine": machine}, wrong)

    def test_families_refused(self):
        lead = (0, 1)
        wrong = NO_TUPLES + ((), (lead,), (lead, lead, lead), [lead, lead], (list(lead), lead), (lead, 0), (lead, None), ((0,), lead))
        wrong += ((lead, (0, 1, 0)), (lead, (0, 2)), (lead, (0, -1)), (lead, (0, True)), ((False, 1), lead), (lead, (0, None)))
        wrong += ((lead, "01"), (lead, ((0,), 1)), ((), ()))
        for rule, machine in ((THUE, TURN), (GOLD, LAST)):
            self.refuses_each(level_of_family, {"rule": rule, "machine": machine, "family": (lead, lead)},
                              {"rule": NO_RULES, "machine": no_fitting(2), "family": wrong})
        self.refused("family", level_of_family, GOLD, COUNT, (lead, lead))
        self.refused("family", level_of_family, ((0, 0),), (((0, 0),),), ((0,), (0,)))


if __name__ == "__main__":
    unittest.main()
