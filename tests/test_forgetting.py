"""[59], [60], [62], [66]: what is forgotten of the waking."""

import functools
import unittest

from ledalong.changes import answers_renamed
from ledalong.forgetting import delay_of, forgets, memory_of, sets_behind, settling_word
from ledalong.ruleparts import power
from ledalong.worlds import words_of
from tests import plain
from tests.samples import GOLD, GROWING, LAST, NO_GROWING, SLOW, THUE, TURN, Case, no_fitting, some_machines

HOLD = (((0, 0), (0, 0)), ((0, 0), (1, 0)))
TRIO = (((1, 0), (0, 0)), ((0, 0), (1, 0)), ((0, 0), (1, 0)))
LONGEST = 12
# Words of this one come again late, and what a machine forgets along it may take thousands of letters.
LATE = ((2, 2, 2, 2), (2, 2, 2, 2), (1, 1, 3, 3), (1, 0, 0, 0))


@functools.lru_cache(None)
def rows_of(rule):
    """For each length from 0 to LONGEST all words with so many letters, all blocks being looked at level by level."""
    words = sorted(plain.world(rule, LONGEST))
    return [[word for word in words if len(word) == length] for length in range(LONGEST + 1)]


def is_settled_soon(rule, machine):
    """Whether all words of forty letters have the same rank, and longer ones no lesser one."""
    return len({len(set(plain.goals(machine, word))) for word in words_of(rule, 40)}) == 1


PAIRS = [(rule, machine) for rule in GROWING if rule != LATE for machine in some_machines(len(rule), 3)[::1 if len(rule) < 3 else 3]]
PAIRS += [(rule, machine) for rule in (THUE, GOLD) for machine in (TURN, LAST, HOLD, TRIO, SLOW)]
PAIRS = [(rule, machine) for rule, machine in PAIRS if is_settled_soon(rule, machine)]


@functools.lru_cache(None)
def plain_memory(rule, machine):
    """The rank of all words of forty letters."""
    return len(set(plain.goals(machine, words_of(rule, 40)[0])))


@functools.lru_cache(None)
def ranks_of(rule, machine):
    """For each length from 0 to LONGEST the pairs of a word with so many letters and its map, walked letter by letter."""
    return [[(word, plain.goals(machine, word)) for word in row] for row in rows_of(rule)]


class ForgettingTests(Case):

    def test_many_cases(self):
        self.assertGreater(len(PAIRS), 200)
        memories = {(len(machine), plain_memory(rule, machine)) for rule, machine in PAIRS}
        self.assertEqual(memories, {(1, 1), (2, 1), (2, 2), (3, 1), (3, 2), (3, 3)})

    def test_memory(self):
        for rule, machine in PAIRS:
            least = min(len(set(lead)) for row in ranks_of(rule, machine) for _, lead in row)
            memory = memory_of(rule, machine)
            self.exactly(memory, plain_memory(rule, machine))
            self.assertTrue(1 <= memory <= least <= len(machine))
            self.assertIs(forgets(rule, machine), memory == 1)

    def test_settling_word(self):
        found = 0
        for rule, machine in PAIRS:
            memory = plain_memory(rule, machine)
            words = [word for row in ranks_of(rule, machine) for word, lead in row if len(set(lead)) == memory]
            word = settling_word(rule, machine)
            if words:
                self.exactly(word, words[0])
            else:
                found += 1
                self.assertGreater(len(word), LONGEST)
                self.exactly(len(set(plain.goals(machine, word))), memory)
                self.assertIn(word, words_of(rule, len(word)))
                for other in words_of(rule, len(word) - 1):
                    self.assertGreater(len(set(plain.goals(machine, other))), memory)
        self.assertLess(found, 20)

    def test_delay(self):
        for rule, machine in PAIRS:
            memory = plain_memory(rule, machine)
            delay = delay_of(rule, machine)
            for length in range(LONGEST + 1):
                settled = all(len(set(lead)) == memory for _, lead in ranks_of(rule, machine)[length])
                self.assertEqual(settled, length >= delay)
            if delay > LONGEST:
                ranks = [{len(set(plain.goals(machine, word))) for word in words_of(rule, length)} for length in (delay - 1, delay)]
                self.assertTrue(ranks[0] > ranks[1] == {memory})
            self.assertEqual(delay == 0, memory == len(machine))
            self.assertGreaterEqual(delay, len(settling_word(rule, machine)))

    def test_sets_behind(self):
        for rule, machine in PAIRS:
            memory, delay = plain_memory(rule, machine), delay_of(rule, machine)
            sets = {tuple(sorted(set(plain.goals(machine, word)))) for word in words_of(rule, delay)}
            self.exactly(sets_behind(rule, machine), tuple(sorted(sets)))
            self.assertEqual({len(lot) for lot in sets}, {memory})
            for row in ranks_of(rule, machine):
                for _, lead in row:
                    if len(set(lead)) == memory:
                        self.assertIn(tuple(sorted(set(lead))), sets)

    def test_edges(self):
        one = (((0, 3), (0, 4)),)
        for rule in (THUE, GOLD):
            self.exactly([memory_of(rule, one), settling_word(rule, one), delay_of(rule, one), sets_behind(rule, one)],
                         [1, (), 0, ((0,),)])
            self.assertIs(forgets(rule, one), True)
            self.exactly([memory_of(rule, TURN), settling_word(rule, TURN), delay_of(rule, TURN), sets_behind(rule, TURN)],
                         [2, (), 0, ((0, 1),)])
        single = (((1, 0),), ((2, 0),), ((2, 0),))
        self.exactly([memory_of(((0, 0),), single), settling_word(((0, 0),), single), delay_of(((0, 0),), single)], [1, (0, 0), 2])
        # Of two settling words, equally long, the first one.
        both = (((0, 0), (1, 0)), ((0, 0), (1, 0)))
        self.exactly([settling_word(THUE, both), sets_behind(THUE, both)], [(0,), ((0,), (1,))])
        late = (((0, 0), (1, 0)), ((1, 0), (1, 0)))
        self.exactly([settling_word(THUE, late), delay_of(THUE, late), sets_behind(THUE, late)], [(1,), 3, ((1,),)])

    def test_some_parts_of_a_machine_are_left_for_ever(self):
        # 2 leads nowhere back, so where the machine wakes there it stays, by words that have no 1.
        part = (((1, 0), (0, 0)), ((0, 0), (1, 0)), ((2, 0), (0, 0)))
        for rule in (THUE, GOLD):
            self.exactly([memory_of(rule, part), settling_word(rule, part)], [2, (1,)])
        self.exactly([delay_of(THUE, part), delay_of(GOLD, part)], [3, 3])
        self.exactly(sets_behind(THUE, part), ((0, 1),))

    def test_delays_of_many_letters(self):
        rule = ((0, 0, 0, 1), (0, 0, 0, 2), (0, 0, 0, 0))
        keep = (((0, 0), (0, 0), (0, 0)), ((1, 1), (1, 1), (0, 1)))
        self.exactly([memory_of(rule, keep), settling_word(rule, keep), delay_of(rule, keep)], [1, (2,), 32])
        twice = (((0, 0), (0, 0), (0, 0)), ((1, 1), (1, 1), (0, 1)), ((2, 0), (2, 0), (1, 0)))
        self.exactly([memory_of(rule, twice), len(settling_word(rule, twice))], [1, 17])
        self.assertGreater(delay_of(rule, twice), 40)

    def test_other_rules_with_the_same_words(self):
        for rule, machine in PAIRS[::9]:
            for n in (2, 3):
                far = power(rule, n)
                self.exactly([memory_of(far, machine), delay_of(far, machine), settling_word(far, machine),
                              sets_behind(far, machine)],
                             [memory_of(rule, machine), delay_of(rule, machine), settling_word(rule, machine),
                              sets_behind(rule, machine)])

    def test_rules_all_of_whose_words_are_words_of_another_one(self):
        rules = (GOLD, ((1, 0), (0,)), ((0, 1, 0), (0, 1)), ((0, 0, 1), (0, 1)), ((1, 0, 0), (1, 0)), THUE, power(THUE, 2),
                 ((0, 1), (0, 1)), ((1, 0), (1, 0)), ((0, 1, 0), (1, 0, 1)))
        inside = [(rule, other) for rule in rules for other in rules if rule != other
                  and set(words_of(other, 25)) <= set(words_of(rule, 25))]
        self.assertGreater(len(inside), 12)
        for rule, other in inside:
            for machine in some_machines(2, 3):
                self.assertGreaterEqual(memory_of(other, machine), memory_of(rule, machine))
                if memory_of(other, machine) == memory_of(rule, machine):
                    self.assertLessEqual(delay_of(other, machine), delay_of(rule, machine))

    def test_answers_do_not_matter(self):
        for rule, machine in PAIRS[::5]:
            other = answers_renamed(machine, ((0, 7), (1, 99)))
            for function in (memory_of, forgets, settling_word, delay_of, sets_behind):
                self.exactly(function(rule, other), function(rule, machine))

    def test_refusals(self):
        wrong = {"rule": NO_GROWING, "machine": no_fitting(2)}
        for function in (memory_of, forgets, settling_word, delay_of, sets_behind):
            for rule, machine in ((THUE, HOLD), (GOLD, TRIO)):
                self.refuses_each(function, {"rule": rule, "machine": machine}, wrong)
            self.refused("machine", function, ((0, 1, 2),) * 3, HOLD)


if __name__ == "__main__":
    unittest.main()
