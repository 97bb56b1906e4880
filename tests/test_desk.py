"""[111]: a desk, led and asked by rows."""

import random
import unittest

from ledalong.desk import Desk
from ledalong.errors import InvalidEvent, InvalidRow, NothingToUndo, NotUsable
from ledalong.texts import machine_line, rule_line
from ledalong.walkerevents import is_event
from ledalong.walkers import Walker
from ledalong.walkertexts import event_line
from tests import plain
from tests.samples import (GOLD, LAST, NO_GROWING, NO_NUMBERS, NO_TUPLES, SLOW, THUE, TURN, Case, no_fitting)
from tests.test_walkerevents import EVENTS
from tests.test_walkerlines import changed_texts, plain_event_field
from tests.test_walkers import POOLS, RULES, any_event
from tests.test_worldstands import AGAIN, LATE
from tests.plainwalker import PlainWalker

ASKED = ("possible", "wakings", "trail", "names", "coming", "told", "rank", "gone", "settled", "classes", "rule", "machine", "log")


def spaced(things):
    """Things with single spaces between, - for none."""
    return " ".join(map(str, things)) or "-"


def plain_row(beside, row):
    """What a desk answers to a row that changes nothing, by a plain walker; None for other rows."""
    told = beside.told()
    words = row.split(" ")
    if row in ("possible", "wakings", "trail", "names"):
        return spaced(told[row + "_now"])
    if row == "coming":
        return spaced(beside.coming())
    if row == "told":
        return "-" if told["told_now"] is None else str(told["told_now"])
    if row in ("rank", "gone"):
        return str(told[row + "_now"])
    if row == "settled":
        return {True: "yes", False: "no"}[told["settled_now"]]
    if row == "classes":
        return " ".join(",".join(map(str, wakings)) for wakings in told["classes_now"])
    if row == "rule":
        return rule_line(beside.rule)
    if row == "machine":
        return machine_line(told["machine_now"])
    if row == "log":
        return " / ".join(map(event_line, beside.events)) or "-"
    if words[0] == "said":
        return spaced(beside.standing(int(words[1]))[1])
    if words[0] == "since":
        return " / ".join(map(event_line, beside.events[beside.events.index(("mark", words[1])) + 1:])) or "-"
    return None


class Desks(Case):

    def no_row(self, desk, row):
        """InvalidRow with this very value, and nothing changes."""
        before = [desk.say(asked) for asked in ASKED]
        with self.assertRaises(InvalidRow) as caught:
            desk.say(row)
        self.assertIs(caught.exception.row, row)
        self.assertIs(caught.exception.__class__, InvalidRow)
        self.assertEqual([desk.say(asked) for asked in ASKED], before)

    def fails(self, desk, row, error):
        """The error of the walker, as it comes."""
        before = [desk.say(asked) for asked in ASKED]
        with self.assertRaises(error.__class__) as caught:
            desk.say(row)
        self.assertIs(caught.exception.__class__, error.__class__)
        self.exactly(vars(caught.exception), vars(error))
        self.assertEqual([desk.say(asked) for asked in ASKED], before)

    def test_rows_by_chance(self):
        barred = set()
        for seed in range(22):
            chance = random.Random(300 + seed)
            rule = RULES[seed % len(RULES)]
            machine = chance.choice(POOLS[rule])
            desk, beside = Desk(rule, machine), PlainWalker(rule, machine)
            for _ in range(30):
                event = any_event(chance, rule, beside)
                if not is_event(event):
                    continue
                reason = beside.barred(event)
                barred.add(reason)
                self.exactly(desk.say("bars " + event_line(event)), reason or "-")
                if reason is None:
                    beside.events.append(event)
                    self.exactly(desk.say(event_line(event)), spaced(beside.told()["possible_now"]))
                    self.exactly(desk.say("undo"), event_line(event))
                    desk.say(event_line(event))
                else:
                    self.fails(desk, event_line(event), InvalidEvent(event, reason))
                for row in (*ASKED, *[f"said {waking}" for waking in beside.left()], *[f"since {name}" for name in beside.names()]):
                    self.exactly(desk.say(row), plain_row(beside, row))
        self.assertEqual(barred, {None, "letter", "level", "word", "long", "answers", "fits", "unlike", "twice"})

    def test_rows(self):
        desk = Desk(rule=GOLD, machine=SLOW)
        for row, told in (
                ("possible", "0 1 2"), ("wakings", "0 1 2"), ("trail", "-"), ("names", "-"), ("coming", "0 1"), ("told", "-"), ("rank", "3"),
                ("gone", "0"), ("settled", "no"), ("classes", "0 1 2"), ("rule", "rule 0,1 0"), ("machine", "machine 0:0,1:0 2:0,1:0 0:1,0:0"),
                ("log", "-"), ("said 1", "-"), ("bars go 0", "-"), ("bars hear 0", "long"), ("go 1", "0 1"), ("classes", "0,1 2"), ("rank", "2"),
                ("said 2", "0"), ("coming", "0"), ("trail", "1"), ("mark b", "0 1"), ("mark a", "0 1"), ("names", "a b"), ("since a", "-"),
                ("since b", "mark a"), ("jump 0 1", "0 1"), ("told", "-"), ("settled", "no"), ("classes", "0,1 2"), ("gone", "3"), ("since a", "jump 0 1"),
                ("said 0", "0 0 0"), ("said 2", "0 0 0"), ("hear 0 0", "0 1"), ("bars hear 1 1", "answers"), ("bars swap 0:0", "fits"), ("bars mark a", "twice"),
                ("bars go 2", "letter"), ("bars jump 0 201", "level"), ("bars go 1", "word"), ("bars swap 0:9,0:9", "unlike"),
                ("swap 0:0,1:0 2:0,1:0 0:1,0:0", "0 1 2"), ("said 0", "-"), ("trail", "1 0 1"),
                ("log", "go 1 / mark b / mark a / jump 0 1 / hear 0 0 / swap 0:0,1:0 2:0,1:0 0:1,0:0"), ("undo", "swap 0:0,1:0 2:0,1:0 0:1,0:0"),
                ("undo", "hear 0 0"), ("undo", "jump 0 1"), ("gone", "1"), ("since b", "mark a"), ("undo", "mark a"), ("names", "b")):
            with self.subTest(row=row):
                self.exactly(desk.say(row=row), told)

    def test_machines_there_are_now(self):
        desk = Desk(THUE, AGAIN)
        self.exactly([desk.say("machine"), desk.say("swap " + machine_line(LAST)[8:]), desk.say("machine"), desk.say("rule"), desk.say("undo"),
                      desk.say("machine")],
                     [machine_line(AGAIN), "0 1", machine_line(LAST), "rule 0,1 1,0", event_line(("swap", LAST)), machine_line(AGAIN)])

    def test_far_jumps(self):
        desk = Desk(GOLD, LAST)
        self.exactly([desk.say("jump 0 200"), desk.say("trail"), len(desk.say("said 0").split(" "))],
                     ["0", spaced(plain.block(GOLD, 0, 20)[-40:]), 40])
        self.exactly(desk.say("gone"), str(fibonacci(202)))

    def test_rows_that_are_none(self):
        desk = Desk(THUE, TURN)
        desk.say("go 0")
        desk.say("mark here")
        for row in NO_TUPLES + NO_NUMBERS + ((), ("go 0",), b"log"):
            self.no_row(desk, row)
        for word in (*ASKED, "undo"):
            for row in (word + " ", " " + word, word + "\n", "\n" + word, word + " 0", word.upper(), word[:-1], word + "s", word + " " + word, word + "  "):
                self.no_row(desk, row)
        for row in ("", " ", "\n", "-", "bars", "bars ", "bars possible", "bars undo", "bars bars go 0", "bars said 0", "bars  go 0", "bars go 0 ",
                    "bars go", "bars go x", "bars\ngo 0", "said", "said ", "said  0", "said 0 ", "said 0 1", "since", "since ", "since  here",
                    "since here ", "since here there", "Said 0", "walker", "walker 0", "tried go 0", "counts", "do_all go 0", "go 0 / go 1",
                    "go 0\n", "mark Here", "mark", "jump 0", "hear", "swap", "swap 1:0", "go -1", "rule 0,1 0", "machine 0:0"):
            self.no_row(desk, row)

    def test_lines_with_one_thing_otherwise(self):
        for event in EVENTS[:16]:
            for text in list(changed_texts(event_line(event)))[::3]:
                desk = Desk(THUE, TURN)
                if plain_event_field(text) is not None:
                    for row in (text, "bars " + text):
                        self.assertRaises(InvalidRow, desk.say, row)
                else:
                    reason = Walker(THUE, TURN).barred(read(text))
                    self.exactly(desk.say("bars " + text), reason or "-")

    def test_wakings_and_names(self):
        desk = Desk(THUE, SLOW)
        for row in ("go 0", "hear 0", "mark here"):
            desk.say(row)
        for word in ("2", "3", "-1", "00", "01", "x", "0\n", "1.0", "9" * 60, "9" * 61, "-", "True", "possible", "\n", "\u0660"):
            self.fails(desk, "said " + word, NotUsable("waking", -1))
        for word in ("there", "Here", "here\n", "\n", "0", "-", "hereherehere", "log"):
            self.fails(desk, "since " + word, NotUsable("name", -1))
        self.exactly([desk.say("said 0"), desk.say("said 1"), desk.say("since here")], ["0", "0", "-"])

    def test_errors_of_the_walker(self):
        self.refuses_each(Desk, {"rule": THUE, "machine": TURN}, {"rule": NO_GROWING, "machine": no_fitting(2)})
        desk = Desk(THUE, TURN)
        self.fails(desk, "undo", NothingToUndo(0))
        self.fails(desk, "go 2", InvalidEvent(("go", 2), "letter"))
        self.fails(desk, "swap " + machine_line(LATE)[8:], InvalidEvent(("swap", LATE), "unlike"))
        for a in plain.block(THUE, 0, 6)[:40]:
            desk.say(f"go {a}")
        self.fails(desk, "mark a", InvalidEvent(("mark", "a"), "full"))
        self.exactly(desk.say("bars mark a"), "full")

    def test_desks_apart(self):
        one, other = Desk(THUE, TURN), Desk(THUE, TURN)
        one.say("go 0")
        self.exactly([one.say("gone"), other.say("gone")], ["1", "0"])


def read(text):
    """The event that a line writes, by the test's own means."""
    words = text.split(" ")
    if words[0] in ("go", "jump"):
        return words[0], *map(int, words[1:])
    if words[0] == "hear":
        return "hear", tuple(map(int, words[1:]))
    if words[0] == "swap":
        return "swap", tuple(tuple(tuple(map(int, pair.split(":"))) for pair in word.split(",")) for word in words[1:])
    return words[0], words[1]


def fibonacci(n):
    """The n-th of the numbers 0, 1, 1, 2, 3, and so on."""
    one, other = 0, 1
    for _ in range(n):
        one, other = other, one + other
    return one


if __name__ == "__main__":
    unittest.main()
