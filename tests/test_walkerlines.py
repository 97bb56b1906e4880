"""[109], [110], [112]: events and logs written as lines and read again."""

import itertools
import re
import unittest

from ledalong.errors import InvalidText
from ledalong.texts import machine_line, rule_line
from ledalong.walkerreadings import read_event, read_log
from ledalong.walkertexts import event_line, log_lines
from tests import plain
from tests.samples import (GOLD, GROWING, LAST, LONG, MACHINES, NO_TUPLES, SLOW, STILL_RULES, THUE, TURN, Case, some_machines)
from tests.test_lines import NUMBER, plain_field, plain_stands
from tests.test_walkerevents import EVENTS, NO_EVENTS

SIXTY = "9" * 60


def plain_event_field(text):
    """The index of the first word that cannot stand in the line of an event, or how many words there are; None if it is one."""
    words = text.split(" ")
    least = {"go": 2, "jump": 3, "hear": 2, "swap": 2, "mark": 2}
    if words[0] not in least:
        return 0
    most = {"go": 2, "jump": 3, "mark": 2}.get(words[0], len(words))
    for at in range(1, len(words)):
        if words[0] == "swap":
            fine = plain_stands("machine", words, at)
        elif words[0] == "mark":
            fine = re.fullmatch("[a-z]{1,8}", words[at]) is not None
        else:
            fine = re.fullmatch(NUMBER, words[at]) is not None
        if at >= most or not fine:
            return at
    return len(words) if len(words) < least[words[0]] else None


def plain_log_field(lines):
    """The first line that cannot be in the lines of a log, and the index of its word; None if they are ones."""
    if not lines:
        return 0, 0
    field = plain_field("rule", lines[0])
    if field is None:
        rule = tuple(tuple(map(int, word.split(","))) for word in lines[0].split(" ")[1:])
        field = 1 if plain.does_grow(rule) is None else None
    if field is not None:
        return 0, field
    if len(lines) == 1:
        return 1, 0
    field = plain_field("machine", lines[1])
    if field is None and lines[1].split(" ")[1].count(":") != len(rule):
        field = 1
    if field is not None:
        return 1, field
    for at, line in enumerate(lines[2:], start=2):
        if plain_event_field(line) is not None:
            return at, plain_event_field(line)
    return None


def changed_texts(text):
    """Texts with one thing otherwise: a word changed, left out, twice, another one added; other blanks; signs."""
    words = text.split(" ")
    for at in range(len(words) + 1):
        for word in ("", "0", "x", "go", "0:0", "12", "\n", "-1", "00", "abcdefghi"):
            yield " ".join(words[:at] + [word] + words[at:])
            yield " ".join(words[:at] + [word] + words[at + 1:])
        yield " ".join(words[:at] + words[at + 1:])
        yield " ".join(words[:at] + words[at:at + 1] * 2 + words[at + 1:])
        yield " ".join(words[:at])
    for at in range(len(text) + 1):
        for sign in (" ", "\n", "0", "1", ",", ":", "a", "A", "-", ""):
            yield text[:at] + sign + text[at:]
            yield text[:at] + sign + text[at + 1:]
    yield from (text.upper(), text + " ", " " + text, "\t" + text, text.replace(" ", "  "), text.replace(" ", "\t"), text * 2)


class LineCase(Case):

    def cannot(self, line, field, read, value):
        """InvalidText with these fields."""
        before = repr(value)
        with self.assertRaises(InvalidText) as caught:
            read(value)
        self.exactly((caught.exception.line, caught.exception.field), (line, field))
        self.assertIs(caught.exception.__class__, InvalidText)
        self.assertEqual(repr(value), before)


class EventLines(LineCase):

    def test_there_and_back(self):
        for event in EVENTS + (("jump", 10 ** 60 - 1, 0), ("hear", tuple(range(40)))):
            line = event_line(event)
            self.exactly(read_event(line), event)
            self.assertIsNone(plain_event_field(line))
        self.exactly(read_event(text=event_line(event=("go", 1))), ("go", 1))

    def test_how_they_are_written(self):
        self.exactly([event_line(event) for event in (("go", 12), ("jump", 0, 200), ("hear", (3,)), ("hear", (0, 10, 2)), ("mark", "here"),
                                                      ("swap", TURN), ("swap", (((0, 5),),)))],
                     ["go 12", "jump 0 200", "hear 3", "hear 0 10 2", "mark here", "swap 0:0,1:0 1:1,0:1", "swap 0:5"])
        for machine in MACHINES:
            self.exactly(event_line(("swap", machine)), "swap" + machine_line(machine)[len("machine"):])

    def test_nothing_else_is_written(self):
        self.refuses_each(event_line, {"event": ("go", 0)}, {"event": NO_EVENTS})

    def test_no_strings(self):
        wrong = tuple(value for value in NO_TUPLES if not isinstance(value, str)) + (b"go 0", ("go", 0), ["go 0"], ())
        self.refuses_each(read_event, {"text": "go 0"}, {"text": wrong})

    def compared(self, text):
        """Read as the patterns tell, and what is read is what is written."""
        field = plain_event_field(text)
        if field is None:
            self.exactly(event_line(read_event(text)), text)
        else:
            self.cannot(0, field, read_event, text)
        return field

    def test_lines_with_one_thing_otherwise(self):
        fields = set()
        for event in EVENTS[:16] + (("swap", SLOW), ("jump", 7, 12)):
            for text in changed_texts(event_line(event)):
                fields.add(self.compared(text))
        self.assertTrue(fields >= {None, 0, 1, 2, 3, 4})

    def test_all_short_lines(self):
        for many in range(5):
            for tail in itertools.product("01a: ,", repeat=many):
                for word in ("go", "jump", "hear", "mark", "swap"):
                    self.compared(word + "".join(tail))
                    self.compared(word + " " + "".join(tail))

    def test_fields(self):
        for text, field in (("", 0), (" ", 0), ("go", 1), ("go ", 1), ("go 0 ", 2), ("go 0 1", 2), ("go  0", 1), ("go\n0", 0), ("go 0\n", 1), ("Go 0", 0),
                            ("jump", 1), ("jump 0", 2), ("jump x", 1), ("jump 0 x", 2), ("jump 0 1 2", 3), ("jump 0  1", 2), ("hear", 1), ("hear ", 1),
                            ("hear 0 x 1", 2), ("hear 0 1 ", 3), ("hear x", 1), ("mark", 1), ("mark ", 1), ("mark A", 1), ("mark a b", 2), ("mark a ", 2),
                            ("mark abcdefghi", 1), ("mark a1", 1), ("mark a\n", 1), ("swap", 1), ("swap ", 1), ("swap 0:0 1:0,0:0", 2), ("swap 1:0", 1),
                            ("swap 0:0 2:0", 2), ("swap machine 0:0", 1), ("swap 0:0 ", 2), ("walker", 0), ("rule 0,1 0", 0), ("machine 0:0", 0),
                            ("undo", 0), ("go -1", 1), ("go 00", 1), ("go 1" + "0" * 60, 1), ("go +1", 1), ("go 1.", 1), ("hear 0 " + "1" * 61, 2)):
            self.cannot(0, field, read_event, text)
        self.exactly([read_event("go " + SIXTY), read_event("hear 0 " + SIXTY), read_event("swap 0:" + SIXTY)],
                     [("go", int(SIXTY)), ("hear", (0, int(SIXTY))), ("swap", (((0, int(SIXTY)),),))])


class LogLines(LineCase):

    def logs(self):
        """Logs of several rules and machines."""
        yield (("walker", THUE, TURN), *EVENTS)
        yield (("walker", GOLD, LAST),)
        yield (("walker", LONG, some_machines(3, 3)[5]), ("go", 0), ("hear", (1,)), ("mark", "a"), ("mark", "a"))
        for rule in GROWING[::3]:
            for machine in some_machines(len(rule), 3)[::5]:
                yield (("walker", rule, machine), *EVENTS[:len(machine) + 2])

    def test_there_and_back(self):
        for log in self.logs():
            lines = log_lines(log)
            self.assertIs(lines.__class__, list)
            self.exactly(lines, [rule_line(log[0][1]), machine_line(log[0][2])] + [event_line(event) for event in log[1:]])
            self.exactly(read_log(lines), log)
            self.exactly(log_lines(read_log(lines)), lines)
            self.assertIsNone(plain_log_field(lines))
        self.exactly(read_log(lines=log_lines(log=(("walker", THUE, TURN),))), (("walker", THUE, TURN),))

    def test_new_lists(self):
        log = (("walker", THUE, TURN), ("go", 0))
        lines = log_lines(log)
        lines.append("go 1")
        self.exactly(log_lines(log), ["rule 0,1 1,0", "machine 0:0,1:0 1:1,0:1", "go 0"])

    def test_nothing_else_is_written(self):
        wrong = NO_TUPLES + ((), (("go", 0),), (("walker", THUE),), (("walker", THUE, (((0, 0),),)),), (("walker", STILL_RULES[3], TURN),),
                             [("walker", THUE, TURN)], (("walker", THUE, TURN), ("go", -1)), (("walker", THUE, TURN), None), ("walker", THUE, TURN))
        self.refuses_each(log_lines, {"log": (("walker", THUE, TURN), ("go", 9))}, {"log": wrong})

    def test_no_lists_of_lines(self):
        lines = log_lines((("walker", THUE, TURN), ("go", 0)))
        wrong = (None, True, 0, "", "rule 0,1 1,0", (), tuple(lines), {}, ["\n"], lines[:2] + ["go 0\n"], ["rule 0,1 1,0\n"] + lines[1:],
                 lines + ["go\n0"], lines + [None], lines + [0], lines + [["go 0"]], [None], [lines], lines + [b"go 0"], ["rule 5", "\n"])
        self.refuses_each(read_log, {"lines": lines}, {"lines": wrong})

    def compared(self, lines):
        """Read as the patterns tell, and what is read is what is written."""
        told = plain_log_field(lines)
        if told is None:
            self.exactly(log_lines(read_log(lines)), lines)
        else:
            self.cannot(*told, read_log, lines)
        return told

    def test_lines_with_one_thing_otherwise(self):
        found = set()
        lines = log_lines((("walker", GOLD, LAST), ("go", 0), ("jump", 1, 12), ("hear", (0, 1)), ("swap", TURN), ("mark", "here")))
        for at, line in enumerate(lines):
            for text in changed_texts(line):
                if "\n" not in text:
                    found.add(self.compared(lines[:at] + [text] + lines[at + 1:]))
            for many in range(3):
                self.compared(lines[:at] + [line] * many + lines[at + 1:])
                self.compared(lines[:at] + [""] * many + lines[at:])
            self.compared(lines[:at])
            self.compared(lines[at:])
            for other in range(len(lines)):
                self.compared([lines[other]] + lines[:at])
                self.compared(lines[:at] + [lines[other]])
        self.assertTrue(found >= {None, (0, 0), (0, 1), (0, 2), (0, 3), (1, 0), (1, 1), (1, 2), (1, 3), (2, 0), (2, 1), (2, 2), (3, 2), (3, 3), (6, 1), (6, 2)})

    def test_fields(self):
        rule, machine = "rule 0,1 1,0", "machine 0:0,1:0 1:1,0:1"
        for lines, at in (([], (0, 0)), ([rule], (1, 0)), ([""], (0, 0)), ([machine], (0, 0)), ([machine, rule], (0, 0)), ([rule, rule], (1, 0)),
                          ([rule, ""], (1, 0)), (["rule 0,1 1,1"], (0, 1)), (["rule 0,1 1,1", "x"], (0, 1)), (["rule 1 0", machine], (0, 1)),
                          (["rule 0", machine], (0, 1)), (["rule 0,0", machine], (1, 1)), ([rule, "machine 0:0"], (1, 1)),
                          ([rule, "machine 0:0,0:0,0:0"], (1, 1)), ([rule, "machine"], (1, 1)), ([rule, "machine 0:0,0:0 2:0,0:0"], (1, 2)),
                          ([rule, machine, ""], (2, 0)), ([rule, machine, "go 0", "jump 0"], (3, 2)), ([rule, machine, "go x", "jump 0"], (2, 1)),
                          ([rule, machine, rule], (2, 0)), ([rule, machine, "go 9", "mark a", "mark a", "swap"], (5, 1))):
            self.cannot(*at, read_log, lines)
            self.assertEqual(plain_log_field(lines), at)


if __name__ == "__main__":
    unittest.main()
