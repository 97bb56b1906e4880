"""Rules, machines and readers for the tests, values that are none, and how refusals are asked for."""

import itertools
import random
import unittest

from ledalong.errors import InvalidPaper, NotUsable
from ledalong.objects import Machine, Reader, Rule

THUE = ((0, 1), (1, 0))
GOLD = ((0, 1), (0,))
DOUBLE = ((0, 1), (0, 0))
LONG = ((0, 0, 0, 1), (0, 0, 0, 2), (0, 0, 0, 0))
SLOW_RULE = ((1,), (2,), (3,), (0, 1))

# Rules that grow, and of which no row repeats a word.
BRANCHING = (
    THUE, GOLD, DOUBLE, LONG, SLOW_RULE,
    ((1,), (1, 0, 0)), ((0, 0, 0, 1), (0,)), ((0, 1), (2,), (0,)), ((0, 1), (0, 2), (0,)),
    ((1, 2), (2, 0), (0, 1)), ((0, 1), (1, 2), (0, 1)), ((0, 1), (0, 2), (3, 1), (3, 2)),
    ((0, 1, 2, 3), (1, 2, 3, 0), (2, 3, 0, 1), (3, 0, 1, 2)),
    ((0, 2), (1, 0, 0), (3,), (1, 0, 0)), ((2, 1, 2, 3), (2, 1, 1, 1), (0,), (2, 2)), ((1,), (2,), (3, 0), (2, 3)),
    # Two blocks of these are the same, so that what becomes of words is the same for long.
    ((3, 0, 0), (3, 0, 0), (1,), (0, 2)), ((2, 1, 3), (2, 1, 3), (1, 2), (0, 2)),
    ((2, 2, 2, 2), (2, 2, 2, 2), (1, 1, 3, 3), (1, 0, 0, 0)),
    # What becomes of 0 is what becomes of 1 3; of 1 of 2 0; of 0 of 2 1.
    ((0, 2, 0, 0), (0, 2), (1, 3), (0, 0)), ((1, 1), (1, 3, 1, 1), (1, 3), (2, 0)), ((0, 3, 0, 0), (0, 0), (0, 3), (2, 1)),
)

# Rules that grow and come round, each with the least word that is repeated.
ROUND = (
    (((0, 0),), (0,)), (((0, 0, 0, 0),), (0,)), (((0, 1), (0, 1)), (0, 1)), (((1, 0), (1, 0)), (0, 1)),
    (((0, 1, 0), (1, 0, 1)), (0, 1)), (((0, 1, 2), (0, 1, 2), (0, 1, 2)), (0, 1, 2)),
    (((0, 2, 1), (0, 2, 1), (0, 2, 1)), (0, 2, 1)), (((0, 0, 1), (0, 0, 1)), (0, 0, 1)),
    (((0, 1, 2), (0,), (1, 2)), (0, 1, 2)), (((3, 2, 1, 0),) * 4, (0, 3, 2, 1)),
    (((0, 1, 1), (0, 1, 1)), (0, 1, 1)), (((1, 1, 0), (1, 1, 0)), (0, 1, 1)),
    (((3, 3), (2, 0, 1, 3), (2, 0), (2, 0, 1, 3)), (0, 1, 3, 2, 0, 1, 3, 2, 0, 3, 3, 2)),
    (((3, 2, 0), (3, 2, 0), (2, 1, 2), (3, 2, 1)), (0, 2, 1, 2, 3, 2, 0, 2, 1, 2, 3, 2, 1, 2, 1, 2, 3, 2)),
)
GROWING = BRANCHING + tuple(rule for rule, _ in ROUND)

# Rules that do not grow: blocks of one letter alone, letters that do not come, letters by turns.
STILL_RULES = (
    ((0,),), ((1,), (0,)), ((0, 1), (1,)), ((0, 1), (1, 1)), ((0, 0), (1, 1)), ((1, 1), (0, 0)),
    ((1,), (2,), (0, 0)), ((0, 0), (0, 0)), ((0, 2), (1, 0), (0, 2)), ((0, 1), (1, 0), (2, 2)), ((1,), (0,), (3,), (2,)), ((0, 1), (1, 0), (0, 1)),
)
RULES = GROWING + STILL_RULES

TURN = (((0, 0), (1, 0)), ((1, 1), (0, 1)))
LAST = (((0, 0), (1, 0)), ((0, 1), (1, 1)))
SLOW = (((0, 0), (1, 0)), ((2, 0), (1, 0)), ((0, 1), (0, 0)))
MACHINES = (
    TURN, LAST, SLOW, (((0, 5),),), (((0, 5),), ((0, 6),)), (((0, 99), (0, 0)),), (((1, 3),), ((2, 4),), ((0, 3),)),
    (((0, 0), (0, 1), (0, 2)),), (((1, 2), (0, 0), (1, 1)), ((0, 1), (1, 1), (0, 0))),
    (((3, 0), (2, 1)), ((0, 1), (1, 10 ** 59)), ((2, 0), (2, 0)), ((1, 1), (3, 0))),
)
READERS = (
    (2, ((0, 1), (1, 0)), (0, 1)), (2, ((0, 0),), (7,)), (3, ((0, 1, 1), (1, 0, 0)), (5, 5)),
    (2, ((0, 1), (2, 0), (1, 2)), (0, 10 ** 59, 12)), (4, ((0, 1, 0, 1), (1, 1, 1, 0)), (1, 0)),
)

OBJECTS = (Rule(THUE), Machine(TURN), Reader(2, ((0, 1), (1, 0)), (0, 1)))
NO_INTEGERS = (None, True, False, "", "1", (), (1,), [], [1], ((),)) + OBJECTS
NO_NUMBERS = NO_INTEGERS + (-1, -2, -10 ** 59)
NO_TUPLES = (None, True, 0, -1, 10 ** 59, "", "0", "01", [], [0], [(0,)]) + OBJECTS

NO_RULES = NO_TUPLES + (
    (), (0,), ((),), ((0,), ()), ((0,), [0]), ([0],), ["0"], ("0",), ((1,),), ((-1,),), ((True,), (0,)), ((0, False),),
    ((None,),), (("0",),), (((0,),),), ((0, 1), (1, 2)), ((0, 1), 1), ((0, 1), None), ((0, [0]), (0,)), TURN, LAST,
)
NO_MACHINES = NO_TUPLES + (
    (), (0,), ((),), (((0, 0),), ()), (((0, 0),), ((0, 0), (0, 0))), (((0, 0), (0, 0)), ((0, 0),)), ([(0, 0)],),
    (([0, 0],),), (((0,),),), (((0, 0, 0),),), (((),),), (((1, 0),),), (((-1, 0),),), (((True, 0),), ((0, 0),)),
    (((False, 0),),), (((0, -1),),), (((0, True),),), (((0, None),),), (((0, "0"),),), (((None, 0),),), THUE, GOLD,
)
NO_READERS = NO_TUPLES + (
    (), (2,), (2, ((0, 0),)), (2, ((0, 0),), (0,), 0), [2, ((0, 0),), (0,)], (1, ((0,),), (0,)), (0, ((),), (0,)),
    (True, ((0,),), (0,)), ("2", ((0, 0),), (0,)), (-2, ((0, 0),), (0,)), (2, (), ()), (2, [(0, 0)], (0,)),
    (2, ((0, 0, 0),), (0,)), (2, ((0,),), (0,)), (2, ([0, 0],), (0,)), (2, ((0, 1),), (0,)), (2, ((0, -1),), (0,)),
    (2, ((0, False),), (0,)), (2, ((1, 0), (0, 0)), (0, 0)), (2, ((0, 0),), [0]), (2, ((0, 0),), ()),
    (2, ((0, 0),), (0, 0)), (2, ((0, 0),), (-1,)), (2, ((0, 0),), (True,)), (2, ((0, 0),), (None,)), TURN, THUE,
)
NO_GROWING = NO_RULES + STILL_RULES


def no_below(many):
    """Values that are no number below many."""
    return NO_NUMBERS + (many, many + 1, 10 ** 59)


def no_words(many):
    """Values that are no tuple of numbers below many."""
    return NO_TUPLES + ((many,), (0, many), (-1,), (0, -1), (True,), (0, False), (None,), ("0",), ((0,),), ([0],), (0, [0]))


def no_sets(many):
    """Values that are no set of numbers below many, many being 2 or more."""
    return no_words(many) + ((1, 0), (0, 0), (1, 1), (0, 1, 1), (0, 1, 0))


# Values that are no map, however many numbers it may have.
NO_MAPS = NO_TUPLES + (
    (), (1,), (-1,), (True,), (False,), (None,), ("0",), ((0,),), ([0],), (2, 0), (0, 2), (0, 1, 3), (0, -1), (0, True),
    (False, 0), (0, None), (0, (1,)), [0, 1],
)


def no_maps(many):
    """Values that are no map with so many numbers, 2 or more."""
    return NO_MAPS + ((0,) * (many - 1), (0,) * (many + 1), (0,) * (many - 1) + (many,), tuple(range(many + 1)), [0] * many)


def no_answers(many):
    """Values that are no tuple of so many numbers, 1 or more."""
    rest = (0,) * (many - 1)
    wrong = ((), rest, rest + (0, 0), [0] * many, rest + (-1,), rest + (True,), rest + (None,), rest + ("0",), rest + ((0,),))
    return NO_TUPLES + wrong + ((False,) + rest, ([0],) + rest)


def no_fitting(letters):
    """Values that are no machine with so many letters."""
    others = tuple((((0, 0),) * many,) for many in range(1, 6) if many != letters)
    return NO_MACHINES + others + tuple(other * 2 for other in others)


def machine_of(columns, chance, answers=2):
    """The machine whose letters have these maps, with answers by chance."""
    return tuple(tuple((column[q], chance.randrange(answers)) for column in columns) for q in range(len(columns[0])))


def some_machines(letters, most=4, each=1):
    """Machines by chance, always the same ones, with so many letters and up to most standings.

    Of each number of standings: any, one to one, with one letter that resets, both of these, apart (two
    lots of standings that no letter leaves), and with a copy of a standing.
    """
    chance = random.Random(100 * letters + most)
    found = []
    for many, _ in itertools.product(range(1, most + 1), range(each)):
        def any_column():
            return [chance.randrange(many) for _ in range(many)]

        def turning():
            return chance.sample(range(many), many)

        reset = [chance.randrange(many)] * many
        found.append(machine_of([any_column() for _ in range(letters)], chance, 3))
        found.append(machine_of([turning() for _ in range(letters)], chance))
        found.append(machine_of([reset] + [any_column() for _ in range(letters - 1)], chance))
        found.append(machine_of([turning() for _ in range(letters - 1)] + [reset], chance))
        if many > 1:
            cut = chance.randrange(1, many)
            apart = [[chance.randrange(cut) if q < cut else chance.randrange(cut, many) for q in range(many)]
                     for _ in range(letters)]
            found.append(machine_of(apart, chance))
            less = machine_of([[chance.randrange(many - 1) for _ in range(many - 1)] for _ in range(letters)], chance)
            twin = chance.randrange(many - 1)
            copied = [tuple((chance.choice((goal, many - 1)) if goal == twin else goal, answer) for goal, answer in part)
                      for part in less]
            found.append(tuple(copied) + (copied[twin],))
    return found


def words_over(letters, longest):
    """All words of so many letters with at most so many of them."""
    return [word for k in range(longest + 1) for word in itertools.product(range(letters), repeat=k)]


class Case(unittest.TestCase):
    """Tests that ask for exact values and for refusals."""

    def exactly(self, found, expected):
        """Equal and of the same kinds throughout: True is not 1, a list is no tuple."""
        self.assertEqual(repr(found), repr(expected))
        self.assertEqual(found, expected)

    def refused(self, name, function, *arguments, **named):
        """NotUsable with this name, nothing changed."""
        before = repr((arguments, named))
        with self.assertRaises(NotUsable) as caught:
            function(*arguments, **named)
        self.exactly((caught.exception.word, caught.exception.at), (name, -1))
        self.assertIs(caught.exception.__class__, NotUsable)
        self.assertEqual(repr((arguments, named)), before)

    def judged(self, word, at, function, *arguments):
        """InvalidPaper with these fields."""
        with self.assertRaises(InvalidPaper) as caught:
            function(*arguments)
        self.exactly((caught.exception.word, caught.exception.at), (word, at))
        self.assertIs(caught.exception.__class__, InvalidPaper)

    def as_told(self, fault, result, function, *arguments):
        """A judge tells the fault that a slow judge has found, or, if this found none, gives the result."""
        before = repr(arguments)
        if fault is None:
            self.exactly(function(*arguments), result)
        else:
            self.judged(*fault, function, *arguments)
        self.assertEqual(repr(arguments), before)
        return fault and fault[0]

    def refuses_each(self, function, right, wrong):
        """Each parameter refused by its name: later ones right, or wrong, too; by place and by name.

        right has a value for each parameter, in their order; wrong has values for each that is
        refused at all.
        """
        names = list(right)
        function(*right.values())
        for at, name in enumerate(names):
            for value in wrong.get(name, ()):
                before = [right[other] for other in names[:at]]
                later = [right[other] for other in names[at + 1:]]
                worse = [wrong.get(other, (right[other],))[0] for other in names[at + 1:]]
                with self.subTest(name=name, value=repr(value)):
                    self.refused(name, function, *before, value, *later)
                    self.refused(name, function, *before, value, *worse)
                    self.refused(name, function, **dict(zip(names, [*before, value, *later])))
