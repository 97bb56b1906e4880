"""[93] to [97]: kernels, low readers, each so many-th place of a row."""

import itertools
import random
import unittest

from ledalong.kernels import every, is_low, kernel_of, low_read, reader_from
from ledalong.kinds import is_reader
from ledalong.readers import least_reader, number_read, parting_number, reader_of
from tests.samples import DOUBLE, NO_NUMBERS, NO_READERS, READERS, THUE, Case
from tests.test_readers import SOME, plain_digits, plain_least, plain_read, row_of

MOST = 40
# What a reader may not be, but a low reader may: its place 0 moves elsewhere by 0.
ELSEWHERE = (2, ((1, 0), (0, 0)), (0, 0))


def plain_low(low, number):
    """What a low reader shows for a number, digit by digit from the lowest one on."""
    place = 0
    for digit in plain_digits(low[0], number)[::-1]:
        place = low[1][place][digit]
    return low[2][place]


def some_lows(most=6, each=6):
    """Low readers by chance, always the same ones: each place shows what the one to which it moves by 0 shows."""
    chance = random.Random(94)
    found = []
    for base, many, _ in itertools.product((2, 3, 4), range(1, most + 1), range(each)):
        moves = tuple(tuple(chance.randrange(many) for _ in range(base)) for _ in range(many))
        shows = [chance.choice((0, 1, 1, 7)) for _ in range(many)]
        for place in range(many):
            # All that 0 leads to one circle show what is shown there first.
            way = [place]
            while moves[way[-1]][0] not in way:
                way.append(moves[way[-1]][0])
            shows[place] = min((k, shows[k]) for k in way[way.index(moves[way[-1]][0]):])[1]
        found.append((base, moves, tuple(shows)))
    return found


LOWS = some_lows()


def far_of(reader):
    """So many numbers lead to each place of a reader to which any leads."""
    return reader[0] ** (len(reader[1]) - 1) + 1


def plain_kernel(reader):
    """The kernel of a reader, by rows compared as far as new places come; None if it has more than MOST rows.

    Rows are told by (e, j): they have at n what the reader's row has at base ** e * n + j.
    """
    base = reader[0]
    far = far_of(reader)

    def row_at(e, j):
        return tuple(plain_read(reader, base ** e * n + j) for n in range(far))

    found = {row_at(0, 0): (0, 0)}
    todo = list(found)
    moves = []
    for row in todo:
        e, j = found[row]
        goals = []
        for digit in range(base):
            goal = row_at(e + 1, base ** e * digit + j)
            if goal not in found:
                found[goal] = (e + 1, base ** e * digit + j)
                todo.append(goal)
            goals.append(todo.index(goal))
        moves.append(tuple(goals))
        if len(todo) > MOST:
            return None
    return len(todo), (base, tuple(moves), tuple(row[0] for row in todo))


FEW = [reader for reader in SOME if far_of(reader) < 90]


class Kernels(Case):

    def test_low_readers(self):
        for low in LOWS:
            self.assertIs(is_low(low), True)
            for number in (*range(40), 10 ** 59, 10 ** 60 - 1):
                self.exactly(low_read(low, number), plain_low(low, number))
        self.exactly(low_read(low=LOWS[-1], number=0), LOWS[-1][2][0])
        self.exactly([low_read((2, ((0, 0),), (7,)), number) for number in (0, 1, 10 ** 59)], [7, 7, 7])
        # It shows the rest by three of how many digits are 1, or 9 if there is none.
        ones = (2, ((0, 1), (1, 2), (2, 3), (3, 1)), (9, 1, 2, 0))
        self.exactly([low_read(ones, number) for number in (0, 1, 6, 7, 15, 2 ** 200 - 1)], [9, 1, 2, 0, 1, 2])

    def test_what_is_low(self):
        told = []
        for reader in SOME + [(low[0], low[1], low[2][::-1]) for low in LOWS]:
            fine = all(reader[2][place[0]] == show for place, show in zip(reader[1], reader[2]))
            self.assertIs(is_low(reader), fine)
            told.append(fine)
        self.assertGreater(min(told.count(True), told.count(False)), 20)
        for value in NO_READERS:
            self.assertIs(is_low(value), value == ELSEWHERE and isinstance(value, tuple))
        self.exactly([is_low(thing=ELSEWHERE), is_low((2, ((1, 0), (0, 0)), (0, 1))), is_low((2, ((1, 0), (0, 0)), (1, True)))],
                     [True, False, False])
        self.exactly([is_low((2, ((1, 0), (1, 1)), (0, 1))), is_low((2, ((1, 0), (1, 1)), (1, 1))), is_low((2, ((0, 0),), (5,)))],
                     [False, True, True])

    def test_kernels(self):
        sizes = set()
        for reader in FEW:
            told = plain_kernel(reader)
            if told is not None:
                self.exactly(kernel_of(reader), told)
                self.exactly(kernel_of(reader=reader), told)
                sizes.add(told[0])
        self.assertTrue(sizes >= {1, 2, 3, 4, 6, 7, 8})
        self.assertGreater(max(sizes), 30)

    def test_kernels_show_what_readers_show(self):
        for reader in SOME:
            many, low = kernel_of(reader)
            self.assertIs(is_low(low), True)
            self.exactly((low[0], len(low[1]), low[2][0]), (reader[0], many, reader[2][0]))
            for number in (*range(80), 10 ** 59, 3 ** 100):
                self.exactly(low_read(low, number), plain_read(reader, number))
            # [97]
            self.exactly(reader_from(low), least_reader(reader))
            met = list(dict.fromkeys([0] + [goal for place in low[1] for goal in place]))
            self.assertEqual(met, list(range(many)))

    def test_kernels_of_one_row(self):
        for base in (2, 3, 4):
            self.exactly(kernel_of((base, ((0,) * base,), (9,))), (1, (base, ((0,) * base,), (9,))))
            self.exactly(kernel_of((base, ((0,) + (1,) * (base - 1), (1,) * base), (9, 9))), (1, (base, ((0,) * base,), (9,))))

    def test_readers_from_low_ones(self):
        lows = 0
        for low in LOWS:
            reader = reader_from(low)
            self.assertTrue(is_reader(reader))
            for number in (*range(80), 10 ** 59, 3 ** 100):
                self.exactly(number_read(reader, number), plain_low(low, number))
            self.exactly(reader_from(low=low), reader)
            self.exactly(least_reader(reader), reader)
            if reader[0] ** len(reader[1]) < 3000:
                self.exactly(plain_least(reader), reader)
                lows += 1
            # Back and forth: the low reader of the kernel has no more places than this one.
            many, least = kernel_of(reader)
            self.assertLessEqual(many, len(low[1]))
            self.exactly(reader_from(least), reader)
        self.assertGreater(lows, 20)
        self.exactly(reader_from(ELSEWHERE), (2, ((0, 0),), (0,)))
        self.exactly(reader_from((2, ((1, 0), (1, 0)), (3, 3))), (2, ((0, 0),), (3,)))

    def test_same_rows(self):
        same = 0
        for one, other in itertools.combinations(SOME[::2], 2):
            if one[0] == other[0]:
                alike = row_of(one, 700) == row_of(other, 700)
                self.assertIs(least_reader(one) == least_reader(other), alike)
                self.assertIs(parting_number(one, other) is None, alike)
                self.assertIs(kernel_of(one) == kernel_of(other), alike)
                same += alike
        self.assertGreater(same, 3)

    def test_every(self):
        for k, reader in enumerate(SOME[::2]):
            for step, begin in ((1, 0), (1, 1 + k), (2, 0), (2, 1), (3, k % 7), (1 + k % 12, k % 201), (12, 200)):
                found = every(reader, step, begin)
                self.exactly(row_of(found, 60), [plain_read(reader, begin + step * n) for n in range(60)])
                self.exactly(number_read(found, 10 ** 50), plain_read(reader, begin + step * 10 ** 50))
                self.assertTrue(is_reader(found))
                self.exactly(least_reader(found), found)
            # [97]
            self.exactly(every(reader, 1, 0), least_reader(reader))
            self.exactly(every(reader=reader, begin=5, step=2), every(reader, 2, 5))

    def test_every_of_every(self):
        for k, reader in enumerate(SOME[::3]):
            for step, begin, far, late in ((2, 1, 3, k), (3, 2, 4, 5), (1, k, 5, 0), (2, 0, 1, 7), (2, k % 3, 6, 100)):
                self.exactly(every(every(reader, step, begin), far, late), every(reader, step * far, begin + step * late))

    def test_every_of_known_rows(self):
        self.exactly([every(reader_of(THUE), 2, 0), every(reader_of(THUE), 2, 1)], [reader_of(THUE), (2, ((0, 1), (1, 0)), (1, 0))])
        self.exactly(every(reader_of(DOUBLE), 2, 0), (2, ((0, 0),), (0,)))
        self.exactly([every(reader_of(DOUBLE), 4, 1), every(reader_of(DOUBLE), 4, 3)], [(2, ((0, 0),), (1,)), reader_of(DOUBLE)])
        # It shows 1 for the powers of two alone: of the places 1 + 2 * n only the first one is such.
        powers = (2, ((0, 1), (1, 2), (2, 2)), (0, 1, 0))
        self.exactly([every(powers, 2, 0), every(powers, 2, 1), every(powers, 12, 3), every(powers, 6, 200)],
                     [powers, (2, ((0, 1), (1, 1)), (1, 0)), (2, ((0, 0),), (0,)), every(every(powers, 6, 2), 1, 33)])

    def test_one_place(self):
        one = (3, ((0, 0, 0),), (5,))
        for step, begin in ((1, 0), (12, 200), (7, 10 ** 59)):
            self.exactly(every(one, step, begin), one)
        self.exactly([kernel_of(one), reader_from(one), low_read(one, 0)], [(1, one), one, 5])

    def test_refusals(self):
        right = kernel_of(READERS[0])[1]
        lows = tuple(value for value in NO_READERS if not is_low(value)) + ((2, ((1, 0), (1, 1)), (0, 1)), (2, ((0, 1), (2, 0), (1, 2)), (0, 1, 2)))
        self.refuses_each(low_read, {"low": right, "number": 6}, {"low": lows, "number": NO_NUMBERS})
        self.refuses_each(reader_from, {"low": right}, {"low": lows})
        self.refuses_each(kernel_of, {"reader": READERS[0]}, {"reader": NO_READERS})
        self.refuses_each(every, {"reader": READERS[0], "step": 2, "begin": 1},
                          {"reader": NO_READERS, "step": NO_NUMBERS + (0,), "begin": NO_NUMBERS})


if __name__ == "__main__":
    unittest.main()
