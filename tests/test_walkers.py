"""[104] to [108]: walkers, led event by event."""

import collections
import random
import unittest

from ledalong.blocks import length_of
from ledalong.errors import InvalidEvent, NothingToUndo, NotUsable
from ledalong.faranswers import answers_of
from ledalong.farplaces import word_at
from ledalong.forgetting import delay_of, memory_of
from ledalong.walkerevents import is_log
from ledalong.walkers import Walker, replayed
from ledalong.worldstands import may_stand
from tests import plain
from tests.plainwalker import PlainWalker, plain_may
from tests.samples import (DOUBLE, GOLD, LAST, LONG, NO_GROWING, NO_NUMBERS, NO_TUPLES, OBJECTS, ROUND, SLOW, SLOW_RULE, THUE, TURN, Case,
                           no_fitting)
from tests.test_faranswers import Tables
from tests.test_forgetting import is_settled_soon
from tests.test_walkerevents import NO_EVENTS
from tests.test_worldstands import AGAIN, KEEP, LATE, NEVER, TRIPLES, ZERO

NAMES = ("a", "b", "here", "there", "zzzzzzzz")
PROPERTIES = ("rule_now", "machine_now", "gone_now", "trail_now", "names_now", "wakings_now", "possible_now", "told_now", "rank_now",
              "settled_now", "classes_now")
RULES = (THUE, GOLD, DOUBLE, LONG, SLOW_RULE, ((0, 0),), ((0, 1), (0, 1)), ((0, 1), (0, 2), (0,)), ((1, 2), (2, 0), (0, 1)),
         ((0, 1), (0, 2), (3, 1), (3, 2)), ROUND[-1][0])


def machines_for(rule):
    """Some machines that fit a rule, some of which may replace others."""
    found = [machine for late, one, other in TRIPLES if late == rule for machine in (other, one)]
    return [machine for machine in dict.fromkeys(found) if is_settled_soon(rule, machine)]


POOLS = {rule: machines_for(rule) for rule in RULES}


def any_event(chance, rule, walker):
    """An event by chance, perhaps one that is refused; walker is a plain one."""
    kind = chance.choice(("go", "go", "go", "jump", "jump", "hear", "hear", "swap", "mark", "none"))
    if kind == "go":
        coming = walker.coming()
        return "go", chance.choice(coming) if coming and chance.random() < 0.8 else chance.randrange(len(rule) + 2)
    if kind == "jump":
        tries = [(a, level) for a in range(len(rule)) for level in range(8) if len(plain.block(rule, a, level)) < 80]
        fine = [(a, level) for a, level in tries if walker.barred(("jump", a, level)) is None]
        if fine and chance.random() < 0.8:
            return "jump", *chance.choice(fine)
        event = "jump", chance.randrange(len(rule) + 1), chance.choice((0, 1, 2, 3, 200, 201, 10 ** 59))
        # The plain walker keeps all letters: it goes no further than this.
        return event if event[2] < 4 or walker.barred(event) is not None else ("go", len(rule))
    if kind == "hear":
        left = walker.left()
        answers = walker.standing(chance.choice(left))[1][-chance.randrange(1, 45):]
        if answers and chance.random() < 0.85:
            return "hear", answers
        return "hear", tuple(chance.randrange(2) for _ in range(chance.randrange(1, 50)))
    if kind == "swap":
        may = [machine for machine in POOLS[rule] if plain_may(rule, machine, walker.woken()[0])]
        return "swap", chance.choice(may if chance.random() < 0.7 else POOLS[rule] + [(((0, 0),) * 5,), TURN])
    if kind == "mark":
        return "mark", chance.choice(NAMES)
    return chance.choice(NO_EVENTS)


def call_of(walker, event):
    """The method, and its arguments, that let an event happen; happen for what is none by form."""
    methods = {"go": walker.go, "jump": walker.jump, "hear": walker.hear, "swap": walker.swap, "mark": walker.mark}
    return methods[event[0]], event[1:]


def seen(walker):
    """All that a walker tells, but counts."""
    told = [getattr(walker, name) for name in PROPERTIES]
    told += [[(waking, walker[waking], walker.said(waking)) for waking in walker.wakings_now], walker.coming(), walker.log()]
    return repr(told + [[(name, walker.since(name)) for name in walker.names_now], list(walker), len(walker)])


class WalkerCase(Case):

    def barred_by(self, event, reason, function, *arguments, **named):
        """InvalidEvent with these fields: the very event, if this is handed in."""
        with self.assertRaises(InvalidEvent) as caught:
            function(*arguments, **named)
        self.exactly((caught.exception.event, caught.exception.reason), (event, reason))
        self.assertIs(caught.exception.__class__, InvalidEvent)
        if any(argument is event for argument in arguments):
            self.assertIs(caught.exception.event, event)

    def same(self, walker, beside):
        """A walker tells what the plain one does."""
        for name, value in beside.told().items():
            self.exactly(getattr(walker, name), value)
        for waking in beside.left():
            goal, answers = beside.standing(waking)
            self.exactly((walker[waking], walker.said(waking)), (goal, answers))
        self.exactly(walker.coming(), beside.coming())
        self.exactly(walker.log(), (("walker", beside.rule, beside.machine), *beside.events))
        self.exactly((len(walker), list(walker)), (len(beside.events), beside.events))
        for name in beside.names():
            self.exactly(walker.since(name), tuple(beside.events[beside.events.index(("mark", name)) + 1:]))
            self.assertIs(name in walker, True)
        self.assertIs("nowhere" in walker, False)

    def let(self, walker, event, way):
        """An event that is let happens, in one of several ways."""
        if way == 0:
            self.exactly(walker.happen(event), walker.possible_now)
        elif way == 1:
            method, arguments = call_of(walker, event)
            self.exactly(method(*arguments), walker.possible_now)
        elif way == 2:
            same = walker
            walker += event
            self.assertIs(walker, same)
        else:
            self.exactly(walker.do_all(event, keep=way == 3), 1)

    def not_let(self, walker, event, reason, way):
        """An event that is refused does not happen, in one of several ways; nothing changes."""
        before = seen(walker)
        if way == 0 or way == 1 and reason == "shape":
            self.barred_by(event, reason, walker.happen, event)
        elif way == 1:
            method, arguments = call_of(walker, event)
            self.barred_by(event, reason, method, *arguments)
        elif way == 2:
            self.barred_by(event, reason, walker.__iadd__, event)
        else:
            self.barred_by(event, reason, walker.do_all, event, keep=way == 3)
        self.assertEqual(seen(walker), before)


class BesideAPlainWalker(WalkerCase):

    def test_pools(self):
        for rule, pool in POOLS.items():
            self.assertGreater(len(pool), 5)
            for one in pool[:8]:
                self.assertGreaterEqual(memory_of(rule, one), 1)
                for other in pool[:8]:
                    self.assertIs(plain_may(rule, one, other), may_stand(rule, one, other))

    def test_events_by_chance(self):
        reasons, kinds = collections.Counter(), collections.Counter()
        for seed in range(44):
            chance = random.Random(seed)
            rule = RULES[seed % len(RULES)]
            machine = chance.choice(POOLS[rule])
            walker, beside = Walker(rule, machine), PlainWalker(rule, machine)
            calls = [0, 0]
            self.same(walker, beside)
            for _ in range(30 if seed % 4 else 80):
                event = any_event(chance, rule, beside)
                reason = beside.barred(event)
                reasons[reason] += 1
                self.exactly(walker.barred(event), reason)
                way = chance.randrange(5)
                calls[0] += 1
                if reason is not None:
                    calls[1] += 1
                    self.not_let(walker, event, reason, way)
                    self.barred_by(event, reason, walker.tried, event)
                    continue
                kinds[event[0]] += 1
                self.tried_and_undone(walker, event, calls)
                self.let(walker, event, way)
                beside.events.append(event)
                self.same(walker, beside)
                self.exactly(walker.counts(), tuple(calls))
            self.replayed_alike(walker)
        self.assertEqual(set(reasons), {None, "shape", "full", "letter", "level", "word", "long", "answers", "fits", "unlike", "twice"})
        self.assertGreater(min(kinds[kind] for kind in ("go", "jump", "hear", "swap", "mark")), 30)

    def tried_and_undone(self, walker, event, calls):
        """An event is tried, happens, and is taken back: nothing changes but counts."""
        before = seen(walker)
        told = walker.tried(event)
        self.assertEqual(seen(walker), before)
        walker.happen(event)
        self.exactly(told, (walker.possible_now, walker.wakings_now))
        self.exactly(walker.undo(), event)
        self.assertEqual(seen(walker), before)
        calls[0] += 2

    def replayed_alike(self, walker):
        """What is replayed by the log is the same, but counts."""
        log = walker.log()
        self.assertIs(is_log(log), True)
        again = replayed(log)
        self.assertIs(again.__class__, Walker)
        self.exactly((seen(again), again.counts()), (seen(walker), (0, 0)))
        self.assertIs(again == walker and walker == again, True)
        if len(walker) > 0:
            again.undo()
            self.assertIs(again == walker, False)


class FarJumps(WalkerCase):

    def test_far_jumps(self):
        for rule in (THUE, GOLD, LONG, SLOW_RULE, ((0, 1), (0, 2), (3, 1), (3, 2))):
            for machine in POOLS[rule][:6]:
                for letter in range(len(rule)):
                    for level in (37, 100, 200):
                        self.jumped(rule, machine, letter, level)

    def test_each_level(self):
        # Lengths of blocks grow by little, so that all but the last forty letters are few letters, too.
        lengths = set()
        for rule in (SLOW_RULE, GOLD, ((0, 0),), ((0, 1), (2,), (0,))):
            # It forgets nothing, and each letter leads elsewhere.
            ring = tuple((((q + 1) % 3, q),) * len(rule) for q in range(3))
            for level in range(60 if rule == SLOW_RULE else 20):
                for letter in range(len(rule)):
                    lengths.add(length_of(rule, letter, level))
                    self.jumped(rule, ring, letter, level)
        self.assertTrue(lengths >= {1, 2, 3, 38, 41, 48, 55})

    def jumped(self, rule, machine, letter, level):
        """A walker jumps at once."""
        walker = Walker(rule, machine)
        length = length_of(rule, letter, level)
        goals = Tables(rule, machine, level).maps[level][letter]
        self.exactly(walker.jump(letter, level), tuple(sorted(set(goals))))
        self.exactly((walker.gone_now, walker.rank_now), (length, len(set(goals))))
        many = min(length, 40)
        self.exactly(walker.trail_now, word_at(rule, letter, level, length - many, many))
        for waking in range(len(machine)):
            self.exactly(walker[waking], goals[waking])
            self.exactly(walker.said(waking), answers_of(rule, machine, letter, waking, level, length - many, many))

    def test_jumps_by_the_letters_of_a_block(self):
        for rule in (THUE, GOLD, LONG, SLOW_RULE, DOUBLE):
            for machine in POOLS[rule][1:6]:
                for letter in range(len(rule)):
                    for level in (1, 2, 3, 4, 7, 30, 200):
                        at_once, one_by_one = Walker(rule, machine), Walker(rule, machine)
                        at_once.jump(letter, level)
                        events = [("jump", b, level - 1) for b in rule[letter]]
                        self.exactly(one_by_one.do_all(*events), len(rule[letter]))
                        self.assertEqual(told_of(at_once), told_of(one_by_one))

    def test_jumps_behind_jumps(self):
        walker = Walker(THUE, TURN)
        walker.do_all(("jump", 0, 200), ("jump", 1, 200), ("jump", 1, 199))
        self.exactly([walker.gone_now, len(walker.trail_now), walker.barred(("jump", 1, 200)), walker.barred(("jump", 0, 200))],
                     [5 * 2 ** 199, 40, None, None])
        self.exactly([walker.barred(("jump", 0, 201)), walker.barred(("jump", 2, 201)), walker.barred(("jump", 0, 10 ** 59))],
                     ["level", "letter", "level"])

    def test_level_0(self):
        for rule in (THUE, GOLD, LONG):
            for machine in POOLS[rule][:5]:
                one, other = Walker(rule, machine), Walker(rule, machine)
                for letter in (0, 1, 0):
                    self.exactly(one.barred(("go", letter)), other.barred(("jump", letter, 0)))
                    if one.barred(("go", letter)) is None:
                        self.exactly(one.go(letter), other.jump(letter, 0))
                        self.assertEqual(told_of(one), told_of(other))

    def test_no_more_than_forty_letters_are_asked_for(self):
        # Nowhere the block of 0 stands three times in a row. Of level 5 forty letters ahead tell it, of level 6 they do not.
        walker = Walker(THUE, TURN)
        walker.do_all(("jump", 0, 5), ("jump", 0, 5))
        self.exactly(walker.barred(("jump", 0, 5)), "word")
        walker = Walker(THUE, TURN)
        walker.do_all(("jump", 0, 6), ("jump", 0, 6))
        self.exactly([walker.barred(("jump", 0, 6)), walker.gone_now], [None, 128])
        self.assertFalse(any(plain.stands(plain.block(THUE, 0, 6) * 3, plain.block(THUE, a, 11)) >= 0 for a in range(2)))


def told_of(walker):
    """What the properties tell, and the answers of wakings."""
    return repr([getattr(walker, name) for name in PROPERTIES] + [walker.said(waking) for waking in walker.wakings_now] + [walker.coming()])


class Refusals(WalkerCase):

    def test_reasons_in_their_order(self):
        walker = Walker(THUE, TURN)
        walker.do_all(("go", 0), ("go", 0), ("mark", "a"))
        for event, reason in ((("go", -1), "shape"), (("go", 2), "letter"), (("go", 0), "word"), (("go", 1), None),
                              (("jump", 2, 999), "letter"), (("jump", 0, 201), "level"), (("jump", 0, 200), "word"), (("jump", 1, 200), "word"), (("jump", 1, 1), None),
                              (("hear", (0, 0, 5)), "long"), (("hear", (0, 5)), "answers"), (("hear", (0, 0)), None), (("hear", ()), "shape"),
                              (("swap", NEVER), "fits"), (("swap", LATE), "unlike"), (("swap", TURN), None), (("swap", THUE), "shape"),
                              (("mark", "A"), "shape"), (("mark", "a"), "twice"), (("mark", "b"), None)):
            self.exactly([walker.barred(event), walker.barred(event=event)], [reason, reason])
        for k in range(37):
            walker.mark("x" * (k % 8 + 1) if k < 8 else "abcdefgh"[k % 8] + "qrstu"[k // 8])
        for event in (("go", 2), ("go", 0), ("go", 1), ("jump", 0, 201), ("hear", (0, 0, 5)), ("hear", (0, 0)), ("swap", NEVER), ("mark", "a")):
            self.exactly(walker.barred(event), "full")
        for event in NO_EVENTS[::7]:
            self.exactly(walker.barred(event), "shape")

    def test_values_that_are_no_events(self):
        walker = Walker(GOLD, LAST)
        walker.go(1)
        before = seen(walker)
        for event in NO_EVENTS:
            self.barred_by(event, "shape", walker.happen, event)
            self.barred_by(event, "shape", walker.do_all, event)
            self.barred_by(event, "shape", walker.__iadd__, event)
            self.barred_by(event, "shape", walker.tried, event)
            self.exactly(walker.barred(event), "shape")
        for value in NO_NUMBERS:
            self.barred_by(("go", value), "shape", walker.go, value)
            self.barred_by(("jump", value, 0), "shape", walker.jump, value, 0)
            self.barred_by(("jump", 0, value), "shape", walker.jump, 0, level=value)
            self.barred_by(("jump", 7, value), "shape", walker.jump, level=value, letter=7)
        for value in NO_TUPLES + ((), (-1,), (True,), [0]):
            self.barred_by(("hear", value), "shape", walker.hear, value)
            self.barred_by(("swap", value), "shape", walker.swap, machine=value)
        for value in NO_NUMBERS + (0, "A", "abcdefghi", ("a",)):
            self.barred_by(("mark", value), "shape", walker.mark, value)
        self.assertEqual(seen(walker), before)

    def test_methods_by_name(self):
        walker = Walker(rule=THUE, machine=TURN)
        self.exactly([walker.go(letter=0), walker.jump(letter=1, level=1), walker.hear(answers=(1,)), walker.swap(machine=TURN),
                      walker.mark(name="a"), walker.happen(event=("go", 0))], [(0, 1), (0, 1), (1,), (0, 1), (0, 1), (0, 1)])
        self.exactly([walker.since(name="a"), walker.said(waking=1), walker.barred(event=("go", 2))], [(("go", 0),), (1,), "letter"])

    def test_making(self):
        self.refuses_each(Walker, {"rule": THUE, "machine": TURN}, {"rule": NO_GROWING, "machine": no_fitting(2)})
        self.exactly([Walker.MOST, Walker(THUE, TURN).MOST], [40, 40])

    def test_wakings_and_names(self):
        walker = Walker(THUE, SLOW)
        walker.do_all(("go", 0), ("mark", "here"), ("hear", (0,)))
        self.exactly(walker.wakings_now, (0, 1))
        for value in NO_NUMBERS + (2, 3, 10 ** 59):
            self.refused("waking", walker.__getitem__, value)
            self.refused("waking", walker.said, value)
        for value in NO_TUPLES + ("there", "Here", "here ", ("here",), ["here"]):
            self.refused("name", walker.since, value)
            self.assertIs(value in walker, False)
        self.assertIs("here" in walker, True)


class Sequences(WalkerCase):

    def test_forty_events(self):
        walker = Walker(THUE, TURN)
        word = plain.block(THUE, 0, 6)
        for a in word[:39]:
            walker.go(a)
        self.exactly([len(walker), walker.barred(("go", word[39])), len(walker.trail_now)], [39, None, 39])
        self.barred_by(("go", word[40]), "full", walker.tried, ("go", word[39]), ("go", word[40]))
        self.barred_by(("go", word[40]), "full", walker.do_all, ("go", word[39]), ("go", word[40]))
        self.exactly(len(walker), 39)
        walker.go(word[39])
        self.exactly([len(walker), walker.trail_now, walker.said(0)], [40, word[:40], plain.run(TURN, 0, word[:40])[1]])
        for event in (("go", word[40]), ("mark", "a"), ("hear", (0,)), ("swap", TURN), ("jump", 0, 0)):
            self.barred_by(event, "full", walker.happen, event)
        self.exactly(walker.coming(), tuple(a for a in range(2) if PlainWalker(THUE, TURN, list(walker)).lets_letters((a,))))
        walker.undo()
        self.exactly([walker.barred(("mark", "a")), walker.mark("a"), walker.barred(("mark", "b"))], [None, (0, 1), "full"])
        self.exactly(replayed(walker.log()) == walker, True)
        self.barred_by(("mark", "b"), "full", replayed, walker.log() + (("mark", "b"),))

    def test_trail_of_forty_letters(self):
        walker = Walker(GOLD, LAST)
        gone = ()
        for level in (3, 4, 5, 6, 7):
            letter = 0 if walker.barred(("jump", 0, level)) is None else 1
            walker.jump(letter, level)
            gone += plain.block(GOLD, letter, level)
            self.exactly([walker.trail_now, walker.gone_now], [gone[-40:], len(gone)])
            self.exactly(walker.said(1), plain.run(LAST, 1, gone)[1][-40:])
        self.assertGreater(len(gone), 40)
        many = walker.said(1)
        self.exactly([walker.barred(("hear", many)), walker.barred(("hear", many + (0,))), walker.barred(("hear", (0,) + many))],
                     [None, "long", "long"])

    def test_span_and_trail(self):
        # Behind a swap the trail stays, but nothing has been answered yet.
        walker = Walker(THUE, AGAIN)
        walker.do_all(("go", 0), ("go", 1), ("swap", LAST))
        self.exactly([walker.trail_now, walker.said(0), walker.gone_now, walker.wakings_now, walker.machine_now, walker.barred(("hear", (0,)))],
                     [(0, 1), (), 2, (0, 1), LAST, "long"])
        walker.go(1)
        self.exactly([walker.trail_now, walker.said(0), walker.said(1), walker.barred(("hear", (0, 0))), walker.barred(("hear", (1,)))],
                     [(0, 1, 1), (0,), (1,), "long", None])
        self.exactly([walker.undo(), walker.undo(), walker.machine_now, walker.said(2)], [("go", 1), ("swap", LAST), AGAIN, (7, 0)])

    def test_heard_ahead_of_a_swap(self):
        walker = Walker(THUE, TURN)
        walker.do_all(("go", 0), ("hear", (1,)))
        self.exactly([walker.wakings_now, walker.told_now], [(1,), 1])
        self.exactly([walker.swap(TURN), walker.wakings_now, walker.told_now, walker.rank_now], [(0, 1), (0, 1), None, 2])
        walker.do_all(("go", 1), ("hear", (0,)))
        self.exactly([walker.wakings_now, walker.said(0), walker[0]], [(0,), (0,), 1])

    def test_machines_that_fall_by_swap(self):
        # Each of these may replace the one ahead of it, but not the other way round.
        walker = Walker(GOLD, AGAIN)
        self.exactly([walker.barred(("swap", LAST)), walker.swap(LAST), walker.barred(("swap", AGAIN)), walker.barred(("swap", LATE))],
                     [None, (0, 1), "unlike", "unlike"])
        walker = Walker(LONG, KEEP)
        self.exactly([walker.barred(("swap", NEVER)), walker.barred(("swap", ZERO)), walker.swap(KEEP), walker.rule_now], [None, "fits", (0, 1), LONG])

    def test_undo(self):
        walker = Walker(GOLD, SLOW)
        with self.assertRaises(NothingToUndo) as caught:
            walker.undo()
        self.exactly((caught.exception.steps, walker.counts()), (0, (1, 1)))
        told = [seen(walker)]
        events = [("go", 0), ("mark", "a"), ("jump", 1, 5), ("hear", (0,)), ("swap", SLOW), ("mark", "b"), ("jump", 0, 60), ("go", 1)]
        events = [event for event in events if walker.barred(event) is None and walker.happen(event) and told.append(seen(walker)) is None]
        self.assertGreater(len(events), 5)
        for event in events[::-1]:
            self.assertEqual(seen(walker), told.pop())
            self.exactly(walker.undo(), event)
        self.assertEqual([seen(walker)], told)
        self.assertRaises(NothingToUndo, walker.undo)
        self.exactly(walker.counts(), (2 * len(events) + 2, 2))

    def test_do_all(self):
        walker = Walker(THUE, TURN)
        self.exactly([walker.do_all(), walker.do_all(("go", 0)), walker.do_all(("go", 0), ("mark", "a"), ("go", 1), keep=True), walker.do_all(keep=True)],
                     [0, 1, 3, 0])
        before = seen(walker)
        self.barred_by(("go", 7), "letter", walker.do_all, ("go", 0), ("mark", "b"), ("go", 7), ("go", 9))
        self.assertEqual(seen(walker), before)
        self.barred_by(("mark", "a"), "twice", walker.do_all, ("go", 1), ("mark", "a"), ("go", 7), keep=False)
        self.assertEqual(seen(walker), before)
        self.barred_by(("mark", "a"), "twice", walker.do_all, ("go", 1), ("mark", "c"), ("mark", "a"), ("go", 7), keep=True)
        self.exactly([list(walker)[-2:], walker.trail_now, walker.names_now], [[("go", 1), ("mark", "c")], (0, 0, 1, 1), ("a", "c")])
        for value in (None, 0, 1, "", "True", (), [], (True,), 10 ** 59, *OBJECTS):
            before = seen(walker)
            self.refused("keep", walker.do_all, keep=value)
            self.refused("keep", walker.do_all, None, ("go", 9), keep=value)
            self.refused("keep", walker.do_all, ("go", 0), keep=value)
            self.assertEqual(seen(walker), before)
        events = [("go", 0), ("go", 1)]
        self.exactly([walker.do_all(*events), events], [2, [("go", 0), ("go", 1)]])

    def test_tried(self):
        walker = Walker(THUE, SLOW)
        walker.go(0)
        before = seen(walker), walker.counts()
        self.exactly(walker.tried(), (walker.possible_now, walker.wakings_now))
        self.exactly(walker.tried(("hear", (1,)), ("go", 1)), ((1,), (2,)))
        self.exactly(walker.tried(("hear", (1,)), ("swap", SLOW), ("mark", "a")), ((0, 1, 2), (0, 1, 2)))
        self.barred_by(("mark", "a"), "twice", walker.tried, ("mark", "a"), ("mark", "a"))
        self.barred_by(("hear", (1,)), "answers", walker.tried, ("hear", (0,)), ("hear", (1,)), None)
        self.barred_by(None, "shape", walker.tried, ("go", 1), None, ("go", 9))
        self.barred_by(("hear", (0,)), "long", walker.tried, ("swap", SLOW), ("hear", (0,)))
        self.exactly((seen(walker), walker.counts()), before)

    def test_marks(self):
        walker = Walker(THUE, TURN)
        walker.do_all(("mark", "later"), ("mark", "a"), ("go", 0), ("mark", "zz"), ("go", 1))
        self.exactly([walker.names_now, walker.since("later"), walker.since("zz"), "later" in walker, "late" in walker],
                     [("a", "later", "zz"), (("mark", "a"), ("go", 0), ("mark", "zz"), ("go", 1)), (("go", 1),), True, False])
        walker.do_all(("swap", TURN), ("go", 0))
        self.exactly([walker.names_now, walker.since("zz")], [("a", "later", "zz"), (("go", 1), ("swap", TURN), ("go", 0))])
        for _ in range(4):
            walker.undo()
        self.exactly([walker.names_now, walker.barred(("mark", "zz")), walker.mark("zz"), walker.since("zz")],
                     [("a", "later"), None, (0, 1), ()])
        self.refused("name", walker.since, "b")

    def test_counts(self):
        walker = Walker(THUE, TURN)
        calls = [0, 0]

        def ask(function, *arguments, **named):
            try:
                function(*arguments, **named)
                calls[0] += 1
            except (InvalidEvent, NothingToUndo, NotUsable):
                calls[0] += 1
                calls[1] += 1
            self.exactly(walker.counts(), tuple(calls))

        ask(walker.undo)
        for right, wrong in ((("go", 0), ("go", 5)), (("jump", 1, 3), ("jump", 1, 3, 4)), (("hear", (0,)), ("hear", (5,))),
                             (("swap", TURN), ("swap", LATE)), (("mark", "a"), ("mark", "a"))):
            for event in (right, wrong):
                ask(walker.happen, event)
                if len(event) == len(right) and event == right:
                    ask(walker.undo)
                if len(event) == len(right):
                    method, arguments = call_of(walker, event)
                    ask(method, *arguments)
                if event == right:
                    ask(walker.undo)
                ask(walker.__iadd__, event)
        ask(walker.do_all)
        ask(walker.do_all, ("mark", "b"), ("mark", "c"))
        ask(walker.do_all, ("mark", "d"), ("mark", "d"))
        ask(walker.do_all, ("mark", "d"), ("mark", "d"), keep=True)
        ask(walker.do_all, ("mark", "e"), keep=1)
        ask(walker.undo)
        self.assertGreater(calls[1], 10)
        for quiet in (lambda: walker.barred(None), lambda: walker.tried(("mark", "e")), lambda: walker.coming(), lambda: walker.log(),
                      lambda: walker.counts(), lambda: seen(walker), lambda: walker == walker, lambda: "a" in walker, lambda: replayed(walker.log())):
            quiet()
            self.exactly(walker.counts(), tuple(calls))
        for loud in (lambda: walker.tried(None), lambda: walker[9], lambda: walker.said(None), lambda: walker.since("nowhere")):
            self.assertRaises((InvalidEvent, NotUsable), loud)
            self.exactly(walker.counts(), tuple(calls))

    def test_iterated_twice_at_once(self):
        walker = Walker(THUE, TURN)
        events = [("go", 0), ("mark", "a"), ("go", 1)]
        walker.do_all(*events)
        self.exactly([(one, other) for one in walker for other in walker], [(one, other) for one in events for other in events])
        first, second = iter(walker), iter(walker)
        self.exactly([next(first), next(first), next(second), len(walker)], [("go", 0), ("mark", "a"), ("go", 0), 3])
        self.exactly([list(Walker(GOLD, LAST)), len(Walker(GOLD, LAST))], [[], 0])

    def test_equal(self):
        walker, other = Walker(THUE, TURN), Walker(((0, 1), (1, 0)), tuple(TURN))
        self.assertIs(walker == other, True)
        walker.go(0)
        self.assertIs(walker == other or other == walker, False)
        other.happen(("go", 0))
        self.assertIs(walker != other, False)
        # Counts are no part of it, nor what was taken back; another event that leads to the same is.
        other.do_all(("mark", "a"))
        other.undo()
        self.assertIs(walker == other, True)
        jumped = Walker(THUE, TURN)
        jumped.jump(0, 0)
        self.exactly([told_of(jumped) == told_of(walker), jumped == walker], [True, False])
        # The same events, but another rule, or another machine.
        unlike = [Walker(rule, machine) for rule, machine in ((THUE, LAST), (GOLD, TURN), (DOUBLE, TURN))]
        for thing in unlike:
            thing.go(0)
            self.exactly(list(thing), list(walker))
        for thing in (*unlike, Walker(THUE, TURN), walker.log(), None, 0, True, "walker", (), [], *OBJECTS):
            self.assertIs(walker == thing, False)
            self.assertIs(thing == walker, False)
            self.assertIs(walker != thing, True)

    def test_properties_are_not_set(self):
        walker = Walker(THUE, TURN)
        walker.do_all(("go", 0), ("mark", "a"))
        for name in PROPERTIES:
            before = getattr(walker, name)
            with self.assertRaises(AttributeError):
                setattr(walker, name, 5)
            self.exactly(getattr(walker, name), before)


class Logs(WalkerCase):

    def test_replayed(self):
        events = (("go", 0), ("jump", 0, 3), ("mark", "a"), ("hear", (0,)), ("swap", LAST), ("jump", 1, 200))
        walker = Walker(THUE, LAST)
        kept = tuple(event for event in events if walker.barred(event) is None and walker.happen(event))
        log = (("walker", THUE, LAST), *kept)
        self.assertGreater(len(kept), 4)
        self.exactly([replayed(log) == walker, replayed(log=log).counts(), replayed(log).log()], [True, (0, 0), log])
        self.exactly([len(replayed((("walker", GOLD, SLOW),))), replayed((("walker", GOLD, SLOW),)).machine_now], [0, SLOW])

    def test_first_event_that_is_refused(self):
        begin = ("walker", THUE, TURN)
        for ahead, event, reason in (((("go", 0), ("go", 0)), ("go", 0), "word"), ((), ("go", 2), "letter"), ((), ("hear", (0,)), "long"),
                                     ((("go", 0),), ("swap", LATE), "unlike"), ((("mark", "a"),), ("mark", "a"), "twice"),
                                     ((("go", 0),), ("swap", NEVER), "fits"), ((), ("jump", 0, 201), "level"),
                                     ((("go", 0),), ("hear", (7,)), "answers"), ((("mark", "a"), ("go", 1)), ("jump", 2, 201), "letter")):
            self.barred_by(event, reason, replayed, (begin, *ahead, event))
            self.barred_by(event, reason, replayed, (begin, *ahead, event, ("go", 7), ("go", 0)))
        self.barred_by(("mark", "a"), "twice", replayed, (begin, ("mark", "a"), ("mark", "a"), ("go", 7)))

    def test_no_logs(self):
        for value in NO_TUPLES + ((), (("go", 0),), (("walker", THUE),), [("walker", THUE, TURN)], (("walker", THUE, NEVER),),
                                  (("walker", ((0, 1), (1, 1)), TURN),), (("walker", THUE, TURN), None), (("walker", THUE, TURN), ("go", 9), ("go", -1)),
                                  (("walker", THUE, TURN), ["go", 0])):
            self.refused("log", replayed, value)


class Consequences(WalkerCase):

    def test_rank(self):
        falling = 0
        for seed in range(30):
            chance = random.Random(1000 + seed)
            rule = RULES[seed % len(RULES)]
            machine = chance.choice(POOLS[rule])
            memory, delay = memory_of(rule, machine), delay_of(rule, machine)
            walker = Walker(rule, machine)
            self.exactly(walker.rank_now, len(machine))
            settled = False
            for _ in range(40):
                before = walker.rank_now
                walker.go(chance.choice(walker.coming()))
                falling += walker.rank_now < before
                self.assertTrue(memory <= walker.rank_now <= before)
                self.assertTrue(walker.settled_now or not settled)
                settled = walker.settled_now
                self.assertIs(settled, walker.rank_now == memory)
                self.assertTrue(settled or len(walker) < delay)
                self.assertLessEqual(len(walker.possible_now), walker.rank_now)
                self.assertIs(walker.told_now is None, len(walker.possible_now) > 1)
                if memory == 1 and len(walker) >= delay:
                    self.assertIsNotNone(walker.told_now)
        self.assertGreater(falling, 10)

    def test_classes_answer_alike(self):
        for seed in range(20):
            chance = random.Random(2000 + seed)
            rule = RULES[seed % len(RULES)]
            walker = Walker(rule, chance.choice([machine for machine in POOLS[rule] if len(machine) > 1] or POOLS[rule]))
            for _ in range(5):
                walker.go(chance.choice(walker.coming()))
            classes = walker.classes_now
            gone = len(walker)
            for _ in range(20):
                walker.go(chance.choice(walker.coming()))
            for wakings in classes:
                self.assertEqual(len({walker.said(waking)[gone:] for waking in wakings}), 1)
                self.assertEqual(len({walker[waking] for waking in wakings}), 1)

    def test_machines_of_one_standing(self):
        walker = Walker(THUE, ZERO)
        self.exactly([walker.told_now, walker.rank_now, walker.settled_now, walker.classes_now, walker.wakings_now, walker.said(0), walker[0]],
                     [0, 1, True, ((0,),), (0,), (), 0])
        self.exactly([walker.jump(0, 200), walker.said(0), walker.barred(("hear", (1,))), walker.hear((0, 0))], [(0,), (0,) * 40, "answers", (0,)])
        one = Walker(((0, 0),), (((1, 3),), ((0, 4),)))
        self.exactly([one.coming(), one.jump(0, 10), one[0], one.said(1), one.hear((3, 4)), one.told_now], [(0,), (0, 1), 0, (4, 3) * 20, (0,), 0])

    def test_what_is_handed_in_stays(self):
        event, log = ("hear", (0,)), [("walker", THUE, TURN), ("go", 0)]
        walker = replayed(tuple(log))
        walker.happen(event)
        self.exactly([event, log, list(walker)[-1] == event, THUE, TURN], [("hear", (0,)), [("walker", THUE, TURN), ("go", 0)], True, ((0, 1), (1, 0)),
                                                                         (((0, 0), (1, 0)), ((1, 1), (0, 1)))])


if __name__ == "__main__":
    unittest.main()
