"""[46], [47]: the maps of all words of a machine's letters."""

import itertools
import unittest

from ledalong.allmaps import all_maps, least_settling, least_word_for
from ledalong.leading import joined_map, map_of
from ledalong.worldmaps import maps_in_world
from tests import plain
from tests.samples import (BRANCHING, LAST, MACHINES, NO_MACHINES, SLOW, TURN, Case, no_maps, some_machines)

EACH = tuple(machine for letters in (1, 2, 3, 4) for machine in some_machines(letters)) + MACHINES
MOST_WORDS = 30000


def first_words(machine):
    """For each map its first word among all words, shorter ones first; None if there are too many words.

    All words of a length are walked letter by letter. Once a length has no new map, no greater one has.
    """
    found, tried = {}, 0
    for length in itertools.count():
        before = len(found)
        tried += len(machine[0]) ** length
        if tried > MOST_WORDS:
            return None
        for word in itertools.product(range(len(machine[0])), repeat=length):
            found.setdefault(plain.goals(machine, word), word)
        if len(found) == before:
            return found


WALKED = tuple((machine, found) for machine, found in zip(EACH, map(first_words, EACH)) if found is not None)


class AllMaps(Case):

    def test_all_words(self):
        self.assertGreater(len(WALKED), len(EACH) // 2)
        self.assertTrue({len(machine) for machine, _ in WALKED} == {len(machine[0]) for machine, _ in WALKED} == {1, 2, 3, 4})
        for machine, found in WALKED:
            self.exactly(all_maps(machine), tuple(sorted(found)))
            for lead in itertools.product(range(len(machine)), repeat=len(machine)):
                self.exactly(least_word_for(machine, lead), found.get(lead))

    def test_least_settling(self):
        for machine, found in WALKED:
            least = min(len(set(lead)) for lead in found)
            words = [word for lead, word in found.items() if len(set(lead)) == least]
            self.exactly(least_settling(machine), plain.shorter_first(words)[0])

    def test_where_there_are_many_words(self):
        for machine in EACH:
            maps = all_maps(machine)
            self.exactly(maps, tuple(sorted(set(maps))))
            for lead in maps[::5]:
                self.exactly(map_of(machine, least_word_for(machine, lead)), lead)
            word = least_settling(machine)
            self.assertEqual(len(set(map_of(machine, word))), min(len(set(lead)) for lead in maps))
            for length in range(min(len(word), 4)):
                for other in itertools.product(range(len(machine[0])), repeat=length):
                    self.assertGreater(len(set(map_of(machine, other))), len(set(map_of(machine, word))))

    def test_joined_maps_are_among_them(self):
        for machine in EACH:
            maps = all_maps(machine)
            self.assertIn(tuple(range(len(machine))), maps)
            for first, second in itertools.product(maps[::3], maps[::3]):
                self.assertIn(joined_map(first, second), maps)

    def test_edges(self):
        one = (((0, 3), (0, 4)),)
        self.exactly([all_maps(one), least_word_for(one, (0,)), least_settling(one)], [((0,),), (), ()])
        ring = (((1, 0),), ((2, 0),), ((3, 0),), ((0, 0),))
        self.exactly(len(all_maps(ring)), 4)
        self.exactly([least_word_for(ring, (3, 0, 1, 2)), least_word_for(ring, (0, 0, 0, 0)), least_settling(ring)],
                     [(0, 0, 0), None, ()])
        line = (((1, 0),), ((2, 0),), ((3, 0),), ((3, 0),))
        self.exactly([least_settling(line), least_word_for(line, (3, 3, 3, 3))], [(0, 0, 0), (0, 0, 0)])
        # Of two words with this map, equally long, the first one.
        twice = (((1, 0), (0, 0), (1, 0)), ((0, 0), (1, 0), (0, 0)))
        self.exactly([least_word_for(twice, (1, 0)), least_word_for(twice, (0, 1))], [(0,), ()])
        # All maps of four standings: one that turns, one that changes two, one that makes two one.
        full = (((1, 0), (1, 0), (1, 0)), ((2, 0), (0, 0), (1, 0)), ((3, 0), (2, 0), (2, 0)), ((0, 0), (3, 0), (3, 0)))
        self.exactly(len(all_maps(full)), 256)

    def test_the_longest_way_to_settle(self):
        # Of machines with n standings the ones that need the longest word have (n - 1) ** 2 letters.
        for many in (2, 3, 4):
            worst = tuple((((q + 1) % many, 0), ((q + 1) % many if q == many - 1 else q, 0)) for q in range(many))
            word = least_settling(worst)
            self.exactly((len(word), len(set(map_of(worst, word)))), ((many - 1) ** 2, 1))
            self.exactly(least_word_for(worst, map_of(worst, word)), word)

    def test_rank_is_at_most_the_memory(self):
        for rule in BRANCHING:
            for machine in some_machines(len(rule), 3):
                memory = min(len(set(lead)) for lead in maps_in_world(rule, machine))
                self.assertLessEqual(len(set(map_of(machine, least_settling(machine)))), memory)

    def test_refusals(self):
        for function in (all_maps, least_settling):
            self.refuses_each(function, {"machine": TURN}, {"machine": NO_MACHINES})
        for machine, lead in ((TURN, (0, 0)), (LAST, (1, 1))):
            wrong = {"machine": NO_MACHINES, "lead": no_maps(2)}
            self.refuses_each(least_word_for, {"machine": machine, "lead": lead}, wrong)
        self.refused("lead", least_word_for, SLOW, (0, 1))
        self.refused("lead", least_word_for, SLOW, (0, 1, 3))


if __name__ == "__main__":
    unittest.main()
