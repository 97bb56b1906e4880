"""The errors: families, fields, and what they keep."""

import unittest

from ledalong import errors
from ledalong.errors import (InvalidEvent, InvalidPaper, InvalidRow, InvalidText, LedError, LiveError, NothingToUndo,
                             NotUsable, PaperError, TextError, WorldError)

FAMILIES = (PaperError, WorldError, LiveError, TextError)
ERRORS = (
    (InvalidPaper, PaperError, ("word", "at")), (NotUsable, WorldError, ("word", "at")),
    (InvalidEvent, LiveError, ("event", "reason")), (NothingToUndo, LiveError, ("steps",)),
    (InvalidText, TextError, ("line", "field")), (InvalidRow, TextError, ("row",)),
)
VALUES = (0, True, None, -1, "word", "", (), [], [1, [2]], {"a": 1}, 10 ** 60, (1, (2,)), object(), LedError, errors)


class Errors(unittest.TestCase):

    def test_families(self):
        self.assertEqual(LedError.__bases__, (ValueError,))
        for family in FAMILIES:
            self.assertEqual(family.__bases__, (LedError,))
        for error, family, _ in ERRORS:
            self.assertEqual(error.__bases__, (family,))

    def test_base_and_families_take_any_values(self):
        for made in (LedError,) + FAMILIES:
            for values in ((), ("why",), (1, None, [2])):
                error = made(*values)
                self.assertEqual(error.args, values)
                self.assertEqual(str(error), str(ValueError(*values)))

    def test_fields_are_the_very_objects(self):
        for error, _, names in ERRORS:
            for value in VALUES:
                for at in range(len(names)):
                    values = [object()] * len(names)
                    values[at] = value
                    for made in (error(*values), error(**dict(zip(names, values)))):
                        self.assertEqual(list(vars(made)), list(names))
                        for name, kept in zip(names, values):
                            self.assertIs(getattr(made, name), kept)

    def test_fields_are_exactly_these(self):
        for error, _, names in ERRORS:
            for many in range(4):
                if many != len(names):
                    with self.assertRaises(TypeError):
                        error(*range(many))
            with self.assertRaises(TypeError):
                error(**{name + "s": 0 for name in names})

    def test_caught_by_family(self):
        for error, family, names in ERRORS:
            for caught in (error, family, LedError, ValueError):
                with self.assertRaises(caught):
                    raise error(*names)
            for other in FAMILIES:
                self.assertEqual(issubclass(error, other), other is family)


if __name__ == "__main__":
    unittest.main()
