"""[89] to [92]: readers, numbers read, least readers."""

import itertools
import random
import unittest

from ledalong.kinds import is_reader
from ledalong.readers import (digits_of, least_reader, number_read, parting_number, reader_both, reader_of, rule_of)
from tests import plain
from tests.samples import DOUBLE, GOLD, NO_NUMBERS, NO_READERS, NO_RULES, READERS, RULES, THUE, Case

NO_BASES = NO_NUMBERS + (0, 1)


def some_readers(most=6, each=6):
    """Readers by chance, always the same ones, of bases 2 to 4."""
    chance = random.Random(92 + most)
    found = []
    for base, many, _ in itertools.product((2, 3, 4), range(1, most + 1), range(each)):
        moves = [[chance.randrange(many) for _ in range(base)] for _ in range(many)]
        moves[0][0] = 0
        shows = [chance.choice((0, 1, 1, 7)) for _ in range(many)]
        if chance.randrange(3) == 0 and many > 1:
            # A place that is alike to another one.
            twin = chance.randrange(1, many)
            moves[twin], shows[twin] = list(moves[twin - 1]), shows[twin - 1]
        found.append((base, tuple(map(tuple, moves)), tuple(shows)))
    return found


SOME = list(READERS) + some_readers()


def plain_digits(base, number):
    """The digits of a number, from the highest one on."""
    return plain_digits(base, number // base) + (number % base,) if number else ()


def plain_read(reader, number):
    """What a reader shows for a number."""
    place = 0
    for digit in plain_digits(reader[0], number):
        place = reader[1][place][digit]
    return reader[2][place]


def row_of(reader, many):
    """What a reader shows for the first numbers."""
    return [plain_read(reader, number) for number in range(many)]


def plain_number(base, digits):
    """The number with these digits."""
    return sum(digit * base ** k for k, digit in enumerate(digits[::-1]))


def plain_least(reader):
    """The least reader: places told apart by all strings of digits as long as there are places."""
    base, moves, shows = reader

    def shown_by(place, digits):
        for digit in digits:
            place = moves[place][digit]
        return shows[place]

    kinds = []
    for place in range(len(moves)):
        kind = [place]
        for digits in itertools.chain(*[itertools.product(range(base), repeat=k) for k in range(len(moves))]):
            kind.append(shown_by(place, digits))
        kinds.append(tuple(kind[1:]))
    met = [0]
    for place in met:
        for goal in moves[place]:
            if kinds[goal] not in [kinds[one] for one in met]:
                met.append(goal)
    numbers = {kinds[place]: k for k, place in enumerate(met)}
    return (base, tuple(tuple(numbers[kinds[goal]] for goal in moves[place]) for place in met),
            tuple(shows[place] for place in met))


def plain_parting(reader, other):
    """The least number for which both show unlike ones, or None if there is none."""
    met = {(0, 0): 0}
    todo = [(0, 0)]
    for one, late in todo:
        number = met[one, late]
        for digit in range(reader[0]):
            goal = reader[1][one][digit], other[1][late][digit]
            if goal not in met or number * reader[0] + digit < met[goal]:
                if goal not in met:
                    todo.append(goal)
                met[goal] = number * reader[0] + digit
    found = [number for (one, late), number in met.items() if reader[2][one] != other[2][late]]
    return min(found) if found else None


class Readers(Case):

    def test_digits(self):
        for base in (2, 3, 4, 10, 99):
            for number in (*range(60), 10 ** 59, base ** 7, base ** 7 - 1):
                digits = digits_of(base, number)
                self.exactly(digits, plain_digits(base, number))
                self.exactly(plain_number(base, digits), number)
        self.exactly([digits_of(10, 10 ** 59), digits_of(10 ** 59, 7), digits_of(base=2, number=0)], [(1,) + (0,) * 59, (7,), ()])

    def test_numbers_read(self):
        chance = random.Random(91)
        for reader in SOME:
            for number in (*range(30), 10 ** 59, chance.randrange(10 ** 60)):
                self.exactly(number_read(reader, number), plain_read(reader, number))
            self.exactly(number_read(reader=reader, number=0), reader[2][0])
        self.exactly(number_read(READERS[0], 10 ** 59), bin(10 ** 59).count("1") % 2)

    def test_readers_of_rules(self):
        rowed = 0
        for rule in RULES:
            if len({len(block) for block in rule}) == 1 and len(rule[0]) > 1 and rule[0][0] == 0:
                rowed += 1
                reader = reader_of(rule)
                self.exactly(reader, (len(rule[0]), rule, tuple(range(len(rule)))))
                self.assertTrue(is_reader(reader))
                level = 1
                while len(rule[0]) ** level < 60:
                    level += 1
                block = plain.block(rule, 0, level)
                self.exactly([number_read(reader, place) for place in range(60)], list(block[:60]))
                self.exactly(rule_of(reader), (rule, tuple(range(len(rule)))))
            else:
                self.refused("rule", reader_of, rule)
        self.assertGreater(rowed, 10)
        self.exactly([reader_of(rule=((0, 0),)), rule_of(reader=(2, ((0, 0),), (7,)))], [(2, ((0, 0),), (0,)), (((0, 0),), (7,))])

    def test_rules_of_readers(self):
        for reader in SOME:
            rule, shows = rule_of(reader)
            self.exactly((reader[0], rule, shows), reader)
            level = 1
            while reader[0] ** level < 40:
                level += 1
            self.exactly([shows[place] for place in plain.block(rule, 0, level)[:40]], row_of(reader, 40))

    def test_least_readers(self):
        smaller = 0
        for reader in SOME:
            if reader[0] ** len(reader[1]) > 5000:
                continue
            least = least_reader(reader)
            self.exactly(least, plain_least(reader))
            self.assertTrue(is_reader(least))
            self.exactly(row_of(least, 200), row_of(reader, 200))
            self.exactly(least_reader(reader=least), least)
            smaller += len(least[1]) < len(reader[1])
        self.assertGreater(smaller, 20)

    def test_least_readers_of_twelve_places(self):
        for reader in some_readers(12, 2)[-40:]:
            least = least_reader(reader)
            self.assertIsNone(plain_parting(least, reader))
            # No two places are alike, and they are met in their order.
            base, moves, shows = least
            for one, other in itertools.combinations(range(len(moves)), 2):
                order = [other] + [k for k in range(len(moves)) if k != other]
                turned = tuple(tuple(order.index(goal) for goal in moves[place]) for place in order)
                first = [one] + [k for k in range(len(moves)) if k != one]
                about = tuple(tuple(first.index(goal) for goal in moves[place]) for place in first)
                self.assertIsNotNone(plain_parting((base, turned, tuple(shows[k] for k in order)), (base, about, tuple(shows[k] for k in first))))
            met = list(dict.fromkeys([0] + [goal for place in moves for goal in place]))
            self.assertEqual(met, list(range(len(moves))))

    def test_parting_numbers(self):
        found = []
        for one, other in itertools.product(SOME[::3], SOME[::2]):
            if one[0] == other[0]:
                number = parting_number(one, other)
                self.exactly(number, plain_parting(one, other))
                self.exactly(parting_number(reader=other, other=one), number)
                rows = row_of(one, 60), row_of(other, 60)
                unlike = [n for n in range(60) if rows[0][n] != rows[1][n]]
                if unlike:
                    self.exactly(number, unlike[0])
                else:
                    self.assertTrue(number is None or number >= 60)
                found.append(number)
        self.assertTrue(set(found) >= {None, 0, 1, 2})
        self.assertGreater(max(number for number in found if number is not None), 3)

    def test_far_parting_numbers(self):
        # The first one shows 1 behind eleven digits 1; the other one never does.
        moves = ((0, 1),) + tuple((0, k + 1) for k in range(1, 11)) + ((0, 11),)
        count = (2, moves, (0,) * 11 + (1,))
        self.exactly(parting_number(count, (2, ((0, 0),), (0,))), 2 ** 11 - 1)
        moves = tuple((0 if k == 0 else min(k + 1, 11), min(k + 1, 11)) for k in range(12))
        self.exactly(parting_number((2, moves, (0,) * 11 + (1,)), (2, ((0, 0),), (0,))), 2 ** 10)
        # Digits are counted by 12 places and by 11: they part where the first one alone comes round.
        rings = [(2, ((0, 1),) + tuple(((k + 1) % (many + 1) or 1,) * 2 for k in range(1, many + 1)), (0,) * many + (1,)) for many in (10, 11)]
        number = parting_number(*rings)
        self.exactly(number, plain_parting(*rings))
        self.exactly(number, 2 ** 9)
        self.exactly(parting_number(rings[0], rings[0]), None)

    def test_both(self):
        for one, other in itertools.product(SOME[::3], SOME[::2]):
            if one[0] == other[0] and len(one[1]) * len(other[1]) < 13:
                both = reader_both(one, other)
                many = 1 + max(other[2])
                self.exactly(row_of(both, 100), [a * many + b for a, b in zip(row_of(one, 100), row_of(other, 100))])
                self.exactly(least_reader(both), both)
                self.exactly(reader_both(reader=one, other=other), both)
        self.exactly(reader_both((2, ((0, 0),), (3,)), (2, ((0, 0), (1, 1)), (2, 9))), (2, ((0, 0),), (32,)))
        self.exactly(reader_both(reader_of(THUE), reader_of(DOUBLE))[2], (0, 3, 2, 1))

    def test_edges(self):
        one = (3, ((0, 0, 0),), (5,))
        self.exactly([least_reader(one), parting_number(one, one), reader_both(one, one), number_read(one, 10 ** 59)],
                     [one, None, (3, ((0, 0, 0),), (35,)), 5])
        self.exactly(parting_number(one, (3, ((0, 0, 0),), (6,))), 0)

    def test_refusals(self):
        self.refuses_each(digits_of, {"base": 2, "number": 6}, {"base": NO_BASES, "number": NO_NUMBERS})
        self.refuses_each(number_read, {"reader": READERS[0], "number": 6}, {"reader": NO_READERS, "number": NO_NUMBERS})
        uneven = (GOLD, ((0,),), ((1,), (0,)), ((1, 0), (0, 1)), ((0, 1), (0,)), ((0,), (0,)), ((1, 1), (0, 0)))
        self.refuses_each(reader_of, {"rule": THUE}, {"rule": NO_RULES + uneven})
        self.refuses_each(rule_of, {"reader": READERS[0]}, {"reader": NO_READERS})
        self.refuses_each(least_reader, {"reader": READERS[0]}, {"reader": NO_READERS})
        unlike = (READERS[2], READERS[4], (3, ((0, 0, 0),), (0,)))
        for function in (parting_number, reader_both):
            self.refuses_each(function, {"reader": READERS[0], "other": READERS[1]}, {"reader": NO_READERS, "other": NO_READERS + unlike})
            self.refused("other", function, READERS[2], READERS[0])


if __name__ == "__main__":
    unittest.main()
