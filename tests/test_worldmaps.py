"""[55], [58]: the maps of the words of a world."""

import functools
import itertools
import unittest

from ledalong.families import family_of, period_of, start_of
from ledalong.leading import joined_map
from ledalong.worldmaps import maps_in_world, word_with_map
from ledalong.worlds import is_word_of, words_of
from tests import plain
from tests.samples import (BRANCHING, GOLD, GROWING, LAST, NO_GROWING, ROUND, SLOW, THUE, TURN, Case, no_fitting, no_maps,
                           some_machines)
from tests.test_families import COUNT
from tests.test_worlds import world

FAR = (((0, 0), (1, 0)), ((0, 0), (2, 0)), ((0, 0), (2, 0)))
EACH = tuple((rule, machine) for rule in GROWING for machine in some_machines(len(rule))[::2 if len(rule) < 3 else 4])
EACH += tuple((rule, machine) for rule in (THUE, GOLD) for machine in (TURN, LAST, SLOW, COUNT, FAR))

# Some maps of these have no short word.
RARE = (
    (((0, 0, 1, 2), (0, 1, 0, 2), (2, 1, 1, 0)),
     (((1, 1), (2, 1), (3, 0)), ((3, 1), (0, 0), (0, 0)), ((0, 0), (2, 0), (1, 0)), ((2, 0), (1, 1), (2, 0)))),
    (((1, 1, 3), (3, 1, 1, 1), (0, 0, 1, 0), (0, 2, 3)),
     (((3, 1), (3, 0), (0, 1), (3, 0)), ((2, 1), (0, 0), (3, 0), (2, 1)), ((1, 1), (1, 0), (1, 0), (3, 1)),
      ((0, 1), (2, 0), (2, 1), (1, 0)))),
    (((3,), (1, 0, 2, 1), (3, 2, 1, 3), (2, 0)),
     (((3, 1), (2, 1), (1, 1), (3, 0)), ((2, 1), (3, 1), (0, 1), (2, 0)), ((1, 1), (0, 0), (0, 1), (0, 0)),
      ((0, 1), (1, 0), (2, 1), (1, 0)))),
    (((1, 1, 1, 2), (2, 0), (0, 0)),
     (((2, 0), (1, 1), (1, 1)), ((3, 1), (2, 1), (3, 0)), ((3, 1), (1, 1), (2, 1)), ((2, 1), (3, 1), (3, 1)))),
    (((1,), (1, 2, 1), (2, 0)),
     (((0, 1), (1, 1), (1, 0)), ((2, 1), (3, 0), (2, 0)), ((1, 1), (2, 1), (0, 0)), ((1, 0), (0, 0), (3, 1)))),
)


@functools.lru_cache(None)
def sorted_world(rule):
    """The words with few letters, shorter ones first."""
    return plain.shorter_first(world(rule))


def maps_along(rule, machine, longest):
    """The maps of the words with at most so many letters in one long block, each walked letter by letter."""
    block = (0,)
    while len(block) < 300:
        block = plain.spread(rule, block)
    found = set()
    for at in range(min(len(block), 600)):
        goals = tuple(range(len(machine)))
        found.add(goals)
        for a in block[at:at + longest]:
            goals = tuple(machine[q][a][0] for q in goals)
            found.add(goals)
    return found


def plain_word(rule, machine, goal):
    """The least word with a map among those with few letters, or None."""
    for word in sorted_world(rule):
        if plain.goals(machine, word) == goal:
            return word
    return None


class WorldMaps(Case):

    def test_all_maps_and_least_words(self):
        longest = 0
        for rule, machine in EACH + RARE:
            maps = maps_in_world(rule, machine)
            self.exactly(maps, tuple(sorted(set(maps))))
            seen = maps_along(rule, machine, 16)
            self.assertLessEqual(seen, set(maps))
            for lead in [lead for lead in maps if lead not in seen] + list(maps[::7]):
                # Each map that is told, and not seen, has a word that shows it.
                word = word_with_map(rule, machine, lead)
                self.assertTrue(is_word_of(rule, word))
                self.exactly(plain.goals(machine, word), lead)
                longest = max(longest, len(word))
        self.assertGreater(longest, 15)

    def test_short_words_by_all_words(self):
        for rule, machine in EACH[::2]:
            maps = maps_in_world(rule, machine)
            for lead in maps[::3] + maps[-1:]:
                expected = plain_word(rule, machine, lead)
                found = word_with_map(rule, machine, lead)
                if expected is not None:
                    self.exactly(found, expected)
                else:
                    self.assertGreater(len(found), len(sorted_world(rule)[-1]))

    def test_longer_words_are_the_least_ones(self):
        tried = 0
        for rule, machine in RARE + EACH[::5]:
            for lead in maps_in_world(rule, machine)[::2]:
                word = word_with_map(rule, machine, lead)
                if 8 <= len(word) <= 24 and tried < 60:
                    tried += 1
                    for length in range(len(word)):
                        for other in words_of(rule, length):
                            self.assertNotEqual(plain.goals(machine, other), lead)
                    same = [other for other in words_of(rule, len(word)) if plain.goals(machine, other) == lead]
                    self.exactly(word, same[0])
        self.assertGreater(tried, 10)

    def test_maps_of_no_word(self):
        for rule, machine in EACH[::4]:
            maps = maps_in_world(rule, machine)
            for lead in itertools.product(range(len(machine)), repeat=len(machine)):
                if lead not in maps:
                    self.assertIsNone(word_with_map(rule, machine, lead))

    def test_far_words(self):
        # 2 comes seldom along this rule: between two of them there are up to thirty-one other letters.
        rule = ((0, 0, 0, 1), (0, 0, 0, 2), (0, 0, 0, 0))
        waits = (((1, 0), (1, 0), (0, 0)), ((2, 0), (2, 0), (0, 0)), ((2, 0), (3, 0), (0, 0)), ((3, 0), (3, 0), (0, 0)))
        self.exactly(word_with_map(rule, waits, (0, 0, 0, 0)), (2,))
        turns = tuple((((q + 1) % 4, 0), (q, 0), (q, 0)) for q in range(4))
        self.exactly(len(maps_in_world(rule, turns)), 4)
        twos = tuple(((q, 0), (q, 0), (min(q + 1, 2), 0)) for q in range(3))
        word = word_with_map(rule, twos, (2, 2, 2))
        self.exactly((word.count(2), word[0], word[-1], len(word)), (2, 2, 2, 17))
        late = tuple(((q, 0), (q, 0), (min(q + 1, 3), 0)) for q in range(4))
        word = word_with_map(rule, late, (3, 3, 3, 3))
        self.exactly((word.count(2), word[0], word[-1], len(word)), (3, 2, 2, 33))

    def test_words_of_more_than_the_limit(self):
        rule = ((0, 0, 0, 1), (0, 0, 0, 2), (0, 0, 0, 0))
        chain = tuple(((q, 0), (q, 0), (min(q + 1, 5), 0)) for q in range(6))
        word = word_with_map(rule, chain, (5,) * 6)
        self.assertGreater(len(word), 60)
        self.exactly(plain.goals(chain, word), (5,) * 6)

    def test_families_are_in_the_world(self):
        for rule, machine in EACH[::2]:
            maps = set(maps_in_world(rule, machine))
            least = min(len(set(lead)) for lead in maps)
            start = start_of(rule, machine)
            for level in range(start + min(period_of(rule, machine), 12)):
                family = family_of(rule, machine, level)
                self.assertLessEqual(set(family), maps)
                if level >= start:
                    self.assertEqual({len(set(lead)) for lead in family}, {least})

    def test_maps_of_words_that_follow(self):
        for rule, machine in EACH[::4]:
            maps = set(maps_in_world(rule, machine))
            for word in words_of(rule, 6):
                for at in range(7):
                    first, second = plain.goals(machine, word[:at]), plain.goals(machine, word[at:])
                    self.assertIn(joined_map(first, second), maps)

    def test_rules_that_come_round(self):
        for rule, word in ROUND:
            for machine in some_machines(len(rule))[:8]:
                row = word * 40
                walked = {plain.goals(machine, row[at:late]) for at in range(len(word)) for late in range(at, len(row), 1)
                          if late - at < 30 * len(word) and late - at < 200}
                self.exactly(maps_in_world(rule, machine), tuple(sorted(walked)))

    def test_edges(self):
        one = (((0, 3), (0, 4)),)
        self.exactly([maps_in_world(GOLD, one), word_with_map(GOLD, one, (0,))], [((0,),), ()])
        single = (((1, 0),), ((1, 0),))
        self.exactly([maps_in_world(((0, 0),), single), word_with_map(((0, 0),), single, (1, 1))], [((0, 1), (1, 1)), (0,)])
        for rule, machine in EACH[::9]:
            everything = tuple(range(len(machine)))
            self.assertIn(everything, maps_in_world(rule, machine))
            self.exactly(word_with_map(rule, machine, everything), ())
        # 1 never stands twice in a row by GOLD: what two of it do is the map of no word.
        twice = (((0, 0), (1, 0)), ((0, 0), (2, 0)), ((0, 0), (2, 0)))
        self.exactly(maps_in_world(GOLD, twice), ((0, 0, 0), (0, 1, 2), (1, 1, 1), (1, 2, 2)))

    def test_refusals(self):
        wrong = {"rule": NO_GROWING, "machine": no_fitting(2), "goal": no_maps(2)}
        for rule, machine in ((THUE, TURN), (GOLD, LAST)):
            self.refuses_each(maps_in_world, {"rule": rule, "machine": machine}, wrong)
            self.refuses_each(word_with_map, {"rule": rule, "machine": machine, "goal": (0, 0)}, wrong)
        self.refused("goal", word_with_map, BRANCHING[0], COUNT, (0, 1))
        self.refused("goal", word_with_map, BRANCHING[0], COUNT, (0, 1, 3))


if __name__ == "__main__":
    unittest.main()
