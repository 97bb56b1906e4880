"""[103]: events and logs by form."""

import itertools
import unittest

from ledalong.walkerevents import is_event, is_log
from tests.samples import (GOLD, GROWING, LAST, LONG, MACHINES, NO_GROWING, NO_MACHINES, NO_NUMBERS, NO_TUPLES, OBJECTS, SLOW, THUE,
                           TURN, Case, no_fitting, some_machines)

FAR = 10 ** 59
EVENTS = (
    ("go", 0), ("go", 1), ("go", FAR), ("jump", 0, 0), ("jump", 1, 200), ("jump", FAR, FAR), ("hear", (0,)), ("hear", (1, 0, FAR)),
    ("hear", (7,) * 60), ("swap", TURN), ("swap", LAST), ("swap", (((0, 5),),)), ("mark", "a"), ("mark", "here"), ("mark", "abcdefgh"),
    ("mark", "zzzzzzzz"), *[("swap", machine) for machine in MACHINES],
)
NO_NAMES = NO_NUMBERS + (0, 1, FAR, "abcdefghi", "A", "aB", "a b", " a", "a ", "a\n", "\n", "a1", "1", "a-", "_", "`", "{", ("a",), "\u00e9", "\u00df",
                         b"a")
# What is behind each word, and what may not stand there.
BEHIND = {"go": ((0,), (NO_NUMBERS,)), "jump": ((0, 3), (NO_NUMBERS, NO_NUMBERS)), "mark": (("here",), (NO_NAMES,)),
          "hear": (((0, 1),), (NO_TUPLES + ((),) + tuple((0, value) for value in NO_NUMBERS) + tuple((value,) for value in NO_NUMBERS),)),
          "swap": ((TURN,), (NO_MACHINES,))}


def no_events():
    """Values that are no events by form."""
    found = list(NO_TUPLES) + [(), ("go",), ("jump",), ("mark",), ("hear",), ("swap",), ("walker", THUE, TURN), (0, 0), ("", 0), ("undo",), ("undo", 0)]
    for word, (parts, wrong) in BEHIND.items():
        right = (word, *parts)
        found += [list(right), right + (0,), right[:-1], (word.upper(), *parts), (word + " ", *parts), ([word], *parts), ((word,), *parts),
                  (word, parts), (None, *parts), (True, *parts), right + right, (right,), (word, word, *parts)]
        for at, values in enumerate(wrong):
            found += [(word, *parts[:at], value, *parts[at + 1:]) for value in values]
    found += [("go", (0,)), ("hear", 0), ("hear", 0, 1), ("hear", [0]), ("jump", (0, 3)), ("mark", ("h",)), ("swap", (TURN,)), ("go", 0, 3), ("jump", 0)]
    found += [(one[0], *other[1:]) for one, other in itertools.permutations(EVENTS[:16], 2)
              if one[0] != other[0] and {one[0], other[0]} != {"go", "jump"} or len(one) != len(other)]
    return found


NO_EVENTS = no_events()


class Events(Case):

    def test_events(self):
        for event in EVENTS:
            self.assertIs(is_event(event), True)
        self.assertIs(is_event(thing=("go", 0)), True)

    def test_other_values(self):
        for value in NO_EVENTS:
            before = repr(value)
            self.assertIs(is_event(value), False, value)
            self.assertEqual(repr(value), before)

    def test_names(self):
        for sign in map(chr, range(128)):
            for text in (sign, "a" + sign, sign * 8):
                self.assertIs(is_event(("mark", text)), "a" <= sign <= "z")
        for many in range(12):
            self.assertIs(is_event(("mark", "k" * many)), 1 <= many <= 8)


class Logs(Case):

    def test_logs(self):
        for rule in GROWING:
            for machine in some_machines(len(rule), 2)[::3]:
                self.assertIs(is_log((("walker", rule, machine),)), True)
                # Events may be impossible, and more than a walker lets happen.
                self.assertIs(is_log((("walker", rule, machine), *EVENTS)), True)
        self.assertIs(is_log(thing=(("walker", THUE, TURN), *EVENTS * 3)), True)

    def test_other_values(self):
        for value in NO_TUPLES + ((), ("walker",), ("walker", THUE, TURN), (("walker", THUE),), (("walker", THUE, TURN, 0),),
                                  (["walker", THUE, TURN],), [("walker", THUE, TURN)], (("Walker", THUE, TURN),), ((None, THUE, TURN),),
                                  (("go", 0),), (("go", 0), ("walker", THUE, TURN)), ((("walker",), THUE, TURN),), (("walker", TURN, THUE),),
                                  (("walker", THUE, TURN), ("walker", THUE, TURN)), (("walker", LONG, TURN),), (("walker", THUE, TURN), None),
                                  (("walker", THUE, (((0, 0),) * 3,)),), (("walker", THUE, OBJECTS[1]),), ((OBJECTS[0], THUE, TURN),)):
            self.assertIs(is_log(value), False, value)
        for value in NO_GROWING:
            self.assertIs(is_log((("walker", value, TURN),)), False)
        for value in no_fitting(2):
            self.assertIs(is_log((("walker", GOLD, value),)), False)
        for value in NO_EVENTS:
            self.assertIs(is_log((("walker", GOLD, SLOW), value)), False)
            self.assertIs(is_log((("walker", GOLD, SLOW), ("go", 0), value, ("go", 1))), False)


if __name__ == "__main__":
    unittest.main()
