"""Each example of the document, as it stands there."""

import doctest
import os
import unittest

from ledalong.errors import LedError

FOLDER = os.path.join(os.path.dirname(os.path.abspath(__file__)), "examples")
STAGES = tuple(f"stage{n}" for n in (*range(1, 21), 22, 23))


def examples_of(name):
    """Pairs of a row behind >>> and the row that is told for it, None if none is."""
    with open(os.path.join(FOLDER, name + ".txt"), encoding="ascii") as file:
        rows = file.read().splitlines()
    found = []
    for row in rows:
        if row.startswith(">>> "):
            found.append((row[4:], None))
        else:
            found[-1] = (found[-1][0], row)
    return found


def told(error):
    """An error as the document writes it."""
    fields = ", ".join(f"{name}={value!r}" for name, value in vars(error).items())
    return f"raises {error.__class__.__name__}({fields})"


def shown(row, names):
    """What a row gives, as the document writes it."""
    try:
        return repr(eval(row, names))
    except LedError as error:
        return told(error)


class Examples(unittest.TestCase):

    def test_examples(self):
        names = {}
        for stage in ("values",) + STAGES:
            found = examples_of(stage)
            self.assertTrue(found)
            for row, expected in found:
                with self.subTest(stage=stage, row=row):
                    if expected is None:
                        exec(row, names)
                    else:
                        self.assertEqual(shown(row, names), expected)

    def test_readme(self):
        readme = os.path.join(os.path.dirname(os.path.dirname(FOLDER)), "README.md")
        failed, tried = doctest.testfile(readme, module_relative=False)
        self.assertEqual((failed, tried > 0), (0, True))


if __name__ == "__main__":
    unittest.main()
