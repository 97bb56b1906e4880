"""[21], [22]: lines written and lines read."""

import itertools
import re
import unittest

from ledalong.errors import InvalidText
from ledalong.readings import machine_read, reader_read, rule_read, word_read
from ledalong.texts import machine_line, reader_line, rule_line, word_line
from tests.samples import (GOLD, MACHINES, NO_MACHINES, NO_NUMBERS, NO_READERS, NO_RULES, NO_TUPLES, READERS, RULES, TURN,
                           Case, words_over)

NUMBER = "(?:0|[1-9][0-9]{0,59})"
READS = (rule_read, word_read, machine_read, reader_read)
NAMES = ("rule", "word", "machine", "reader")


def plain_field(name, text):
    """The index of the first word that cannot stand, or None: by patterns for words."""
    words = text.split(" ")
    if words[0] != name:
        return 0
    least = {"rule": 2, "word": 1, "machine": 2, "reader": 3}[name]
    for at in range(1, len(words)):
        if not plain_stands(name, words, at):
            return at
    return len(words) if len(words) < least else None


def plain_stands(name, words, at):
    """Whether a word behind the first one can stand, those ahead of it being right."""
    word = words[at]
    numbers = [int(digits[:70]) for digits in re.findall("[0-9]+", word)]
    if name == "word":
        return re.fullmatch(NUMBER, word) is not None
    if name == "rule":
        fine = re.fullmatch(f"{NUMBER}(?:,{NUMBER})*", word) is not None
        return fine and max(numbers) < len(words) - 1
    if name == "machine":
        fine = re.fullmatch(f"{NUMBER}:{NUMBER}(?:,{NUMBER}:{NUMBER})*", word) is not None
        return fine and max(numbers[::2]) < len(words) - 1 and word.count(",") == words[1].count(",")
    if at == 1:
        return re.fullmatch(NUMBER, word) is not None and numbers[0] >= 2
    fine = re.fullmatch(f"{NUMBER}(?:,{NUMBER})*:{NUMBER}", word) is not None
    fine = fine and len(numbers) == int(words[1]) + 1 and max(numbers[:-1]) < len(words) - 2
    return fine and (at > 2 or numbers[0] == 0)


class Lines(Case):

    def cannot(self, read, text, field):
        with self.subTest(text=text):
            with self.assertRaises(InvalidText) as caught:
                read(text)
            self.exactly((caught.exception.line, caught.exception.field), (0, field))

    def test_written_and_read(self):
        words = words_over(3, 3) + [(10 ** 59, 0, 10 ** 60 - 1), (12, 345)]
        for values, line, read in ((RULES, rule_line, rule_read), (words, word_line, word_read),
                                   (MACHINES, machine_line, machine_read), (READERS, reader_line, reader_read)):
            for value in values:
                self.exactly(read(line(value)), value)

    def test_how_they_are_written(self):
        self.exactly(rule_line(((0, 1, 2), (2,), (1, 0))), "rule 0,1,2 2 1,0")
        self.exactly(rule_line(((0,),)), "rule 0")
        self.exactly(word_line((7,)), "word 7")
        self.exactly(word_line((7, 0, 123)), "word 7 0 123")
        self.exactly(machine_line((((0, 12),),)), "machine 0:12")
        self.exactly(machine_line((((1, 3), (0, 4), (1, 0)), ((0, 0), (0, 1), (1, 99)))), "machine 1:3,0:4,1:0 0:0,0:1,1:99")
        self.exactly(reader_line((3, ((0, 1, 1), (1, 0, 0)), (5, 6))), "reader 3 0,1,1:5 1,0,0:6")
        self.exactly(reader_line((2, ((0, 0),), (10,))), "reader 2 0,0:10")

    def test_nothing_else_is_written(self):
        self.refuses_each(rule_line, {"rule": GOLD}, {"rule": NO_RULES})
        self.refuses_each(machine_line, {"machine": TURN}, {"machine": NO_MACHINES})
        self.refuses_each(reader_line, {"reader": READERS[0]}, {"reader": NO_READERS})
        wrong = NO_TUPLES + tuple((0, value) for value in NO_NUMBERS) + tuple((value,) for value in NO_NUMBERS)
        self.refuses_each(word_line, {"word": (3, 0)}, {"word": wrong})

    def test_no_strings(self):
        wrong = tuple(value for value in NO_RULES if not isinstance(value, str)) + (b"rule 0",)
        for read, text in zip(READS, ("rule 0", "word", "machine 0:0", "reader 2 0,0:0")):
            self.refuses_each(read, {"text": text}, {"text": wrong})

    def test_first_words(self):
        for read, name in zip(READS, NAMES):
            for text in ("", " ", "x", name + "s", name[:-1], name.upper(), " " + name, "\n" + name, name + "\n", name + "\n 0"):
                self.cannot(read, text, 0)
            for other in NAMES:
                if other != name:
                    self.cannot(read, other + " 0", 0)
        self.cannot(rule_read, machine_line(TURN), 0)
        self.cannot(machine_read, rule_line(GOLD), 0)

    def test_missing_words(self):
        self.cannot(rule_read, "rule", 1)
        self.cannot(machine_read, "machine", 1)
        self.cannot(reader_read, "reader", 1)
        self.cannot(reader_read, "reader 2", 2)
        self.cannot(reader_read, "reader 12345", 2)
        self.exactly(word_read("word"), ())

    def test_empty_words_and_newlines(self):
        self.cannot(rule_read, "rule ", 1)
        self.cannot(word_read, "word ", 1)
        self.cannot(machine_read, "machine ", 1)
        self.cannot(reader_read, "reader ", 1)
        self.cannot(reader_read, "reader 2 ", 2)
        self.cannot(rule_read, "rule 0  0", 2)
        self.cannot(rule_read, "rule  0 0", 1)
        self.cannot(rule_read, "rule 0 0 ", 3)
        self.cannot(word_read, "word 1  2", 2)
        self.cannot(word_read, "word 1 2 ", 3)
        self.cannot(machine_read, "machine 0:0 0:0 ", 3)
        self.cannot(reader_read, "reader 2 0,0:1 ", 3)
        self.cannot(rule_read, "rule 0 0\n", 2)
        self.cannot(rule_read, "rule 0\n0", 1)
        self.cannot(word_read, "word 0\n", 1)
        self.cannot(word_read, "word 1 \n2 3", 2)
        self.cannot(machine_read, "machine 0:0\n", 1)
        self.cannot(reader_read, "reader 2\n 0,0:1", 1)
        self.cannot(reader_read, "reader 2 0,0:1\n", 2)

    def test_numbers(self):
        sixty, more = "9" * 60, "1" + "0" * 60
        self.exactly(word_read("word " + sixty), (int(sixty),))
        self.exactly(machine_read("machine 0:" + sixty), (((0, int(sixty)),),))
        self.exactly(reader_read("reader 2 0,0:" + sixty), (2, ((0, 0),), (int(sixty),)))
        for bad in (more, "-1", "+1", "-0", "00", "01", "0" * 61, "1.0", "1e3", "1_0", "0x1", "a", "", "\t1", "1\n", "()", "None",
                    "True", ",", ":", "1,", ",1", "\u0663", "\u00b2"):
            self.cannot(word_read, "word 5 " + bad, 2)
            self.cannot(rule_read, "rule 0 " + bad, 2)
            self.cannot(rule_read, "rule 0,0," + bad, 1)
            self.cannot(machine_read, "machine 0:0 0:" + bad, 2)
            self.cannot(machine_read, f"machine 0:0 {bad}:0", 2)
            self.cannot(reader_read, "reader 2 0,0:" + bad, 2)
            self.cannot(reader_read, f"reader 2 0,{bad}:0", 2)
            self.cannot(reader_read, f"reader {bad} 0,0:0", 1)
        self.exactly(rule_read("rule 0,0,0"), ((0, 0, 0),))

    def test_what_is_too_great(self):
        self.cannot(rule_read, "rule 1", 1)
        self.cannot(rule_read, "rule 0,1 0,2", 2)
        self.cannot(rule_read, "rule 0,2 x 1", 2)
        self.cannot(rule_read, "rule 0,3 x 1", 1)
        self.cannot(rule_read, "rule 0,2  3", 2)
        self.cannot(machine_read, "machine 1:0", 1)
        self.cannot(machine_read, "machine 1:0 2:0", 2)
        self.cannot(machine_read, "machine 2:5 x 1:0", 2)
        self.cannot(machine_read, "machine 2:5 x", 1)
        self.cannot(reader_read, "reader 2 0,1:0", 2)
        self.cannot(reader_read, "reader 2 0,1:0 0,2:0", 3)
        self.cannot(reader_read, "reader 2 0,2:0 x 0,0:0", 3)

    def test_how_many(self):
        self.cannot(machine_read, "machine 0:0 0:0,1:1", 2)
        self.cannot(machine_read, "machine 0:0,1:1 0:0", 2)
        self.cannot(machine_read, "machine 0:0,1:1 0:0,1:1,0:0", 2)
        self.cannot(machine_read, "machine 0:0:0", 1)
        self.cannot(machine_read, "machine 0", 1)
        self.cannot(machine_read, "machine 0:0,,0:0", 1)
        for base in ("0", "1", "-2", "02", "x", ""):
            self.cannot(reader_read, f"reader {base} 0,0:0", 1)
        self.cannot(reader_read, "reader 2 0:0", 2)
        self.cannot(reader_read, "reader 2 0,0,0:0", 2)
        self.cannot(reader_read, "reader 3 0,0,0:0 0,0:0", 3)
        self.cannot(reader_read, "reader 2 0,0", 2)
        self.cannot(reader_read, "reader 2 0,0:0:0", 2)
        self.cannot(reader_read, "reader 2 1,0:0 0,0:0", 2)
        self.exactly(reader_read("reader 2 0,1:0 1,0:0"), (2, ((0, 1), (1, 0)), (0, 0)))

    def compared(self, name, text):
        """Read as the patterns tell, and what is read is what is written."""
        read = READS[NAMES.index(name)]
        field = plain_field(name, text)
        if field is not None:
            self.cannot(read, text, field)
        else:
            line = (rule_line, word_line, machine_line, reader_line)[NAMES.index(name)]
            self.exactly(line(read(text)), text)

    def test_all_short_lines(self):
        for many in range(6):
            for tail in itertools.product("012,: ", repeat=many):
                for name in ("rule", "word", "machine"):
                    self.compared(name, name + " " + "".join(tail))
                self.compared("reader", "reader 2 0,0:" + "".join(tail))

    def test_lines_with_one_thing_otherwise(self):
        for values, line, name in ((RULES[:12], rule_line, "rule"), (MACHINES, machine_line, "machine"),
                                   (READERS, reader_line, "reader"), ((((12, 0, 345)),), word_line, "word")):
            for value in values:
                text = line(value)
                for at in range(len(text) + 1):
                    for more in ("", " ", "0", "1", ",", ":", "\n", "-"):
                        self.compared(name, text[:at] + more + text[at:])
                        self.compared(name, text[:at] + more + text[at + 1:])


if __name__ == "__main__":
    unittest.main()
