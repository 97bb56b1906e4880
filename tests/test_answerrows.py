"""[76], [75]: answers along a row, as objects."""

import random
import unittest

from ledalong.answercounts import counts_of, first_of
from ledalong.answerrows import AnswerRow
from ledalong.blocks import length_of
from ledalong.faranswers import answer_at, answers_of, standing_at
from ledalong.farplaces import letter_at, seeds
from tests import plain
from tests.samples import (BRANCHING, GOLD, LAST, NO_GROWING, NO_NUMBERS, NO_TUPLES, OBJECTS, SLOW, THUE, TURN, Case, no_below,
                           no_fitting, some_machines)
from tests.test_answercounts import counted
from tests.test_faranswers import COUNT, PAIRS, walked

TWO = ((1, 0), (0, 1))
SEEDED = [(rule, machine) for rule, machine in PAIRS] + [(TWO, machine) for machine in some_machines(2, 3)]


def plain_seed(rule, letter):
    """The least level from 1 on at which a letter begins its block, or None."""
    for n in range(1, 9):
        if plain.block(rule, letter, n)[0] == letter:
            return n
    return None


def row_of(rule, letter, least):
    """A beginning of the row of a letter, with at least so many letters."""
    n = plain_seed(rule, letter)
    word = (letter,)
    while len(word) < least:
        for _ in range(n):
            word = plain.spread(rule, word)
    return word


def rows(pairs, least):
    """AnswerRows, what they are made of, and their first places, walked letter by letter."""
    for rule, machine in pairs:
        for letter in range(len(rule)):
            if plain_seed(rule, letter) is not None:
                word = row_of(rule, letter, least)[:5000]
                for standing in range(len(machine)):
                    yield AnswerRow(rule, machine, letter, standing), (rule, machine, letter, standing), walked(machine, standing, word)


class AnswerRows(Case):

    def test_properties(self):
        steps = set()
        for one, made, _ in rows(SEEDED[::3], 1):
            self.exactly((one.rule_now, one.machine_now, one.letter_now, one.standing_now), made)
            self.exactly(one.step_now, plain_seed(made[0], made[2]))
            steps.add(one.step_now)
        self.assertTrue(steps >= {1, 2, 3})

    def test_first_places(self):
        for one, _, places in rows(SEEDED[::3], 40):
            told = tuple(answer for _, _, answer in places)
            for place in (*range(12), 39):
                self.exactly(one[place], places[place])
            for first, many in ((0, 40), (0, 0), (7, 0), (5, 20), (39, 1)):
                self.exactly(one(first, many), told[first:first + many])
            self.exactly(one(many=3, first=2), told[2:5])
            for many in (0, 1, 2, 17, 40):
                self.exactly(one.counted(many), counted(told[:many]))
            self.exactly(one.counted(many=5), counted(told[:5]))

    def test_answers_and_their_first_places(self):
        for one, made, places in rows(SEEDED[::3], 500):
            told = [answer for _, _, answer in places]
            answers = {answer for part in made[1] for _, answer in part}
            self.exactly(one.answers_now, tuple(sorted(set(one.answers_now))))
            self.assertTrue(set(told) <= set(one.answers_now) <= answers)
            for answer in answers | {99, 10 ** 59}:
                self.assertIs(answer in one, answer in one.answers_now)
                place = one.first_place(answer)
                self.exactly(one.first_place(answer=answer), place)
                if answer in told:
                    self.exactly(place, told.index(answer))
                elif answer in one:
                    self.assertGreaterEqual(place, len(told))
                    self.exactly(one[place][2], answer)
                    self.assertNotIn(answer, dict(one.counted(place)))
                else:
                    self.assertIsNone(place)

    def test_answers_that_come_late(self):
        # 2 comes once in sixteen letters, 1 once in four; the machine answers 8 to the third 2 alone.
        rule = ((0, 0, 0, 1), (0, 0, 0, 2), (0, 0, 0, 0))
        machine = (((0, 0), (0, 0), (1, 0)), ((1, 0), (1, 0), (2, 0)), ((2, 0), (2, 0), (2, 8)))
        one = AnswerRow(rule, machine, 0, 0)
        word = row_of(rule, 0, 4000)
        third = [place for place, a in enumerate(word) if a == 2][2]
        self.exactly([one.answers_now, one.first_place(8), 8 in one, one.from_standing(2).first_place(8)],
                     [(0, 8), third, True, word.index(2)])
        self.exactly(AnswerRow(THUE, (((0, 10 ** 59), (1, 3)), ((0, 99), (1, 8))), 0, 0).answers_now, (3, 8, 99, 10 ** 59))
        # It never comes to the standing 2 if this answers as told; then 8 is no answer of the row.
        never = (((0, 0), (0, 0), (1, 0)), ((1, 0), (1, 0), (0, 0)), ((2, 0), (2, 0), (2, 8)))
        self.exactly([AnswerRow(rule, never, 0, q).answers_now for q in range(3)], [(0,), (0,), (0, 8)])
        self.exactly([AnswerRow(rule, never, 0, q).first_place(8) for q in range(3)], [None, None, word.index(2)])

    def test_far_places(self):
        chance = random.Random(18)
        for one, made, _ in list(rows(SEEDED[::6], 1))[::3]:
            rule, machine, letter, standing = made
            level = 0
            while length_of(rule, letter, level) <= 10 ** 60:
                level += one.step_now
            where = (rule, machine, letter, standing, level)
            for place in (10 ** 59, chance.randrange(10 ** 60)):
                self.exactly(one[place], (letter_at(rule, letter, level, place), standing_at(*where, place), answer_at(*where, place)))
                self.exactly(one(place, 9), answers_of(*where, place, 9))
                self.exactly(one.counted(place), counts_of(*where, place))
            # Further than any limit of places.
            letters = [one[10 ** 90 + k] for k in range(3)]
            self.exactly(one(10 ** 90, 3), tuple(answer for _, _, answer in letters))
            self.exactly(machine[letters[0][1]][letters[0][0]], (letters[1][1], letters[0][2]))
            self.exactly(sum(often for _, often in one.counted(10 ** 90)), 10 ** 90)
        self.exactly(AnswerRow(THUE, TURN, 1, 0)[10 ** 200][0], (bin(10 ** 200).count("1") + 1) % 2)

    def test_blocks_of_the_row(self):
        for one, made, _ in list(rows(SEEDED[::5], 1))[::2]:
            for times in (0, 1, 2, 3):
                level = times * one.step_now
                length = length_of(made[0], made[2], level)
                if length < 400:
                    self.exactly(one(0, length), answers_of(*made, level, 0, length))
                    self.exactly(one.counted(length), counts_of(*made, level, length))
                    for answer in one.answers_now:
                        first = first_of(*made, level, answer)
                        if first is not None:
                            self.exactly(one.first_place(answer), first)

    def test_from_standing(self):
        for one, made, _ in rows(SEEDED[::9], 1):
            rule, machine, letter, standing = made
            for late in range(len(machine)):
                other = one.from_standing(late)
                self.assertIs(other.__class__, AnswerRow)
                self.exactly((other.rule_now, other.machine_now, other.letter_now, other.standing_now), (rule, machine, letter, late))
                self.assertIs(other == one, late == standing)
                self.assertIs(one.from_standing(standing=late) == other, True)
                self.exactly(other[4], AnswerRow(rule, machine, letter, late)[4])

    def test_equal(self):
        one = AnswerRow(THUE, TURN, 0, 1)
        self.assertIs(one == AnswerRow(((0, 1), (1, 0)), tuple(TURN), 0, 1), True)
        self.assertIs(one != AnswerRow(rule=THUE, machine=TURN, letter=0, standing=1), False)
        for other in (AnswerRow(THUE, TURN, 1, 1), AnswerRow(THUE, TURN, 0, 0), AnswerRow(THUE, LAST, 0, 1), AnswerRow(GOLD, TURN, 0, 1),
                      None, 0, True, (THUE, TURN, 0, 1), "row", [], OBJECTS[0], OBJECTS[1]):
            self.assertIs(one == other, False)
            self.assertIs(other == one, False)
            self.assertIs(one != other, True)

    def test_letters_that_no_block_of_theirs_begins(self):
        for rule in BRANCHING:
            machine = some_machines(len(rule), 2)[0]
            for letter in range(len(rule)):
                if letter in dict(seeds(rule)):
                    self.exactly(AnswerRow(rule, machine, letter, 0).step_now, dict(seeds(rule))[letter])
                else:
                    self.refused("letter", AnswerRow, rule, machine, letter, 0)
                    self.refused("letter", AnswerRow, rule, machine, letter, None)
        self.refused("letter", AnswerRow, GOLD, LAST, 1, 7)

    def test_refusals(self):
        wrong = {"rule": NO_GROWING, "machine": no_fitting(2), "letter": no_below(2), "standing": no_below(2)}
        self.refuses_each(AnswerRow, {"rule": THUE, "machine": TURN, "letter": 1, "standing": 1}, wrong)
        self.refuses_each(AnswerRow, {"rule": GOLD, "machine": SLOW, "letter": 0, "standing": 1}, {**wrong, "standing": no_below(3)})
        one = AnswerRow(GOLD, COUNT, 0, 2)
        for value in NO_NUMBERS:
            self.refused("place", one.__getitem__, value)
            self.refused("first", one, value, 2)
            self.refused("first", one, value, None)
            self.refused("many", one, 2, value)
            self.refused("many", one.counted, value)
            self.refused("answer", one.first_place, value)
            self.assertIs(value in one, False)
        for value in no_below(3):
            self.refused("standing", one.from_standing, value)
        self.exactly((one.standing_now, one(0, 5)), (2, one.from_standing(2)(0, 5)))

    def test_it_does_not_change(self):
        one = AnswerRow(THUE, TURN, 0, 0)
        for name in ("rule_now", "machine_now", "letter_now", "standing_now", "step_now", "answers_now"):
            before = getattr(one, name)
            with self.assertRaises(AttributeError):
                setattr(one, name, 5)
            self.exactly(getattr(one, name), before)
        for value in NO_TUPLES:
            self.assertIs(value in one, isinstance(value, int) and not isinstance(value, bool) and value == 0)
        for function in (iter, list, tuple):
            with self.assertRaises(TypeError):
                function(one)


if __name__ == "__main__":
    unittest.main()
