"""[1] to [12] over the whole program: one way through all parts, and each function with each argument not as stated."""

import fractions
import importlib
import inspect
import unittest

from ledalong import (again, allmaps, alongclasses, answercounts, answerreaders, answerrows, blocks, changes, desk, endlooks, families,
                      familyclasses, familypapers, faranswers, farplaces, forgetchecker, forgetclasses, forgetpapers, forgetting, kernels,
                      leading, likeness, likepapers, objects, pairrules, parents, readers, readings, replacing, roundness, ruleparts, shares,
                      texts, waking, wakings, walkerevents, walkerreadings, walkers, walkertexts, wordcounts, worldmaps, worldpapers, worlds,
                      worldstands)
from ledalong.errors import InvalidEvent, InvalidRow, LedError
from tests.samples import DOUBLE, GOLD, LAST, LONG, SLOW, THUE, TURN, Case
from tests.test_interface import CLASSES, FUNCTIONS
from tests.test_worldstands import AGAIN, KEEP, LATE, NEVER

FOUR = ((0, 1), (0, 2), (3, 1), (3, 2))
WIDE = (((0, 0), (1, 0), (1, 1), (0, 1)), ((0, 1), (1, 1), (0, 0), (1, 0)))
WAYS = ((THUE, LAST, AGAIN), (THUE, TURN, TURN), (DOUBLE, LATE, LAST), (DOUBLE, TURN, SLOW), (GOLD, LATE, LAST), (LONG, KEEP, NEVER),
        (FOUR, WIDE, WIDE[::-1]), (((0, 0),), (((1, 3),), ((0, 4),)), (((0, 3),),)), (((0, 1), (0, 1)), SLOW, LAST))
EARLY = ("kinds", "judges", "ruleparts", "changes", "texts", "readings", "objects")


def fraction(share):
    """A share as a fraction."""
    return fractions.Fraction(*share)


class OneWay(Case):
    """One rule and two machines, through all parts; what one part hands the next is taken as it is."""

    def test_lines_and_objects(self):
        for rule, one, other in WAYS:
            lines = [texts.rule_line(rule), texts.machine_line(one), texts.machine_line(other)]
            read = [readings.rule_read(lines[0]), *map(readings.machine_read, lines[1:])]
            self.exactly(read, [rule, one, other])
            self.exactly([str(objects.Rule.read(lines[0])), str(objects.Machine.read(lines[1]))], lines[:2])
            self.exactly((objects.Rule(rule) ** 2).rule_now, ruleparts.power(rule, 2))
            self.exactly((~objects.Rule(rule)).rule_now, ruleparts.turned(rule))
            if max(answer for part in one for _, answer in part) < len(rule):
                self.exactly((objects.Machine(one) + objects.Machine(other)).machine_now, changes.led_behind(one, other))

    def test_words_and_blocks(self):
        for rule, _, _ in WAYS:
            level = worlds.grows(rule)
            self.assertEqual(set(blocks.block_of(rule, 0, level)), set(range(len(rule))))
            for length in (1, 2, 5, 8):
                words = worlds.words_of(rule, length)
                self.exactly(wordcounts.how_many(rule, length), len(words))
                more = sum(len(worlds.following(rule, word)) - 1 for word in wordcounts.branching(rule, length))
                self.exactly(wordcounts.how_many(rule, length + 1), len(words) + more)
                for word in words[::3]:
                    found = parents.parents_of(rule, word)
                    self.assertTrue(found and all(parents.is_parent(rule, word, one) for one in found))
                    at, place = again.first_in(rule, 0, word)
                    self.exactly(farplaces.word_at(rule, 0, at, place, length), word)
                    self.assertLessEqual(at, again.level_of_word(rule, word))
            self.assertIs(roundness.lets_round(rule, roundness.round_paper(rule)), roundness.comes_round(rule) is not None)
            for letter, step in farplaces.seeds(rule):
                level = step * (farplaces.level_holding(rule, letter, 10 ** 40) // step + 1)
                path = farplaces.path_to(rule, letter, level, 10 ** 40)
                self.exactly(farplaces.place_by(rule, letter, path), 10 ** 40)
                counts = [farplaces.count_before(rule, letter, level, 10 ** 40, a) for a in range(len(rule))]
                self.exactly(sum(counts), 10 ** 40)
                there = farplaces.letter_at(rule, letter, level, 10 ** 40)
                self.exactly(farplaces.place_of(rule, letter, level, there, counts[there]), 10 ** 40)

    def test_maps_and_what_is_forgotten(self):
        for rule, *machines in WAYS:
            for machine in machines:
                one = familyclasses.Families(rule, machine)
                self.exactly(familypapers.lets_family(rule, machine, familypapers.family_paper(rule, machine)), (one.start_now, one.period_now))
                for level in range(5):
                    for letter in range(len(rule)):
                        word = blocks.block_of(rule, letter, level)
                        self.exactly(one(letter, level), leading.map_of(machine, word))
                        self.exactly(forgetclasses.Forgetting(rule, machine)(word), waking.standings_behind(machine, tuple(range(len(machine))), word))
                maps = worldmaps.maps_in_world(rule, machine)
                self.assertTrue(set(maps) <= set(allmaps.all_maps(machine)))
                for lead in maps:
                    self.exactly(leading.map_of(machine, worldmaps.word_with_map(rule, machine, lead)), lead)
                memory = forgetchecker.lets_forget(rule, machine, forgetpapers.forget_paper(rule, machine))
                self.exactly([memory, min(len(set(lead)) for lead in maps)], [forgetting.memory_of(rule, machine)] * 2)
                self.assertIs(wakings.settles(rule, machine, forgetting.settling_word(rule, machine)), True)
                for word in worlds.words_of(rule, min(forgetting.delay_of(rule, machine), 12))[::3]:
                    if forgetting.delay_of(rule, machine) <= 12:
                        self.assertIn(wakings.behind(rule, machine, word), forgetting.sets_behind(rule, machine))

    def test_answers(self):
        for rule, *machines in WAYS:
            for machine in machines:
                start, period, made, words = pairrules.pair_paper(rule, machine)
                self.exactly(pairrules.lets_pairs(rule, machine, (start, period, made, words)), len(words))
                if period > 4 or len(rule[0]) > 2:
                    continue
                for letter, (block, standing) in [(k, divmod(k, len(machine))) for k in range(len(made))]:
                    told = tuple(answer for a in made[letter] for answer in words[a])
                    level = start + period
                    self.exactly(told, leading.answers_to(machine, standing, blocks.block_of(rule, block, level)))
                    self.exactly(told, faranswers.answers_of(rule, machine, block, standing, level, 0, len(told)))
                    for answer in {0, 1}:
                        first = answercounts.first_of(rule, machine, block, standing, level, answer)
                        self.exactly(first, told.index(answer) if answer in told else None)

    def test_rows(self):
        for rule, *machines in WAYS:
            for machine in machines:
                for letter, _ in farplaces.seeds(rule):
                    row = answerrows.AnswerRow(rule, machine, letter, len(machine) - 1)
                    for place in (0, 7, 10 ** 59):
                        a, standing, answer = row[place]
                        self.exactly((leading.leads(machine, standing, (a,)), answer), machine[standing][a])
                        self.exactly(row(place, 1), (answer,))
                        self.assertIn(answer, row)
                        self.assertLessEqual(row.first_place(answer), place)
                        self.exactly(sum(often for _, often in row.counted(place)), place)

    def test_replacing(self):
        for rule, one, other in WAYS:
            it = alongclasses.Along(rule, one, other)
            if replacing.may_replace(one, other):
                self.assertIs(it.may(), True)
            for letters in (0, 1, 2):
                paper = worldpapers.stand_paper(rule, one, other, letters=letters)
                told = worldpapers.lets_stand(rule, one, other, paper, letters=letters)
                self.exactly([told, it.may(letters)], [worldstands.may_stand(rule, one, other, letters=letters)] * 2)
                failing = worldstands.failing_word(rule, one, other, letters=letters)
                if not told:
                    self.assertIs(worldpapers.lets_stand(rule, one, other, ("fails", *failing), letters=letters), False)
                    self.assertIs(it.shows(failing[1] + failing[2]) or letters > 0, True)
            least = worldstands.least_letters(rule, one, other)
            self.exactly(least == 0, it.may())
            if forgetting.forgets(rule, one) and forgetting.forgets(rule, other):
                most = max(forgetting.delay_of(rule, one), forgetting.delay_of(rule, other))
                self.assertIs(endlooks.agree_behind(rule, one, other), worldstands.may_stand(rule, one, other, letters=most))
            plain_word = endlooks.plain_word(rule, one, other)
            if it.may():
                for standing, (goal, lot) in enumerate(it(plain_word)):
                    self.assertTrue(lot)
                    self.exactly(leading.leads(one, standing, plain_word), goal)
            else:
                self.assertIsNone(plain_word)
            self.exactly(likepapers.lets_alike(one, other, likepapers.alike_paper(one, other)), replacing.are_alike(one, other))
            self.assertIs(replacing.are_alike(one, likeness.merged(one)), True)

    def test_readers_and_shares(self):
        for rule, *machines in WAYS:
            if len({len(block) for block in rule}) > 1 or rule[0][0] != 0:
                continue
            reader = readers.reader_of(rule)
            level = farplaces.level_holding(rule, 0, 10 ** 59)
            self.exactly(readers.number_read(reader, 10 ** 59), farplaces.letter_at(rule, 0, level, 10 ** 59))
            for pair, share in shares.pair_shares(rule):
                self.exactly(shares.share_of_word(rule, pair), share)
            for machine in machines:
                for standing in range(len(machine)):
                    shown = answerreaders.answer_reader(rule, machine, standing)
                    row = answerrows.AnswerRow(rule, machine, 0, standing)
                    for place in (0, 1, 30, 10 ** 59):
                        self.exactly(readers.number_read(shown, place), row[place][2])
                        self.exactly(kernels.low_read(kernels.kernel_of(shown)[1], place), row[place][2])
                        self.exactly(readers.number_read(kernels.every(shown, 3, 2), place), row[2 + 3 * place][2])
                    self.exactly(kernels.reader_from(kernels.kernel_of(shown)[1]), readers.least_reader(shown))
                    self.exactly(readings.reader_read(texts.reader_line(shown)), shown)
                    both = readers.reader_both(reader, shown)
                    self.exactly(readers.number_read(both, 10 ** 59),
                                 readers.number_read(reader, 10 ** 59) * (max(shown[2]) + 1) + row[10 ** 59][2])
                    parting = readers.parting_number(reader, shown)
                    self.assertIs(parting is None, readers.least_reader(reader) == shown)
                found = answerreaders.answer_shares(rule, machine)
                self.assertTrue(all(sum(fraction(share) for _, share in told) == 1 for told in found))
                delay = forgetting.delay_of(rule, machine)
                if forgetting.forgets(rule, machine) and delay < 40:
                    totals = {}
                    for word in worlds.words_of(rule, delay + 1):
                        answer = leading.answers_to(machine, 0, word)[-1]
                        totals[answer] = totals.get(answer, 0) + fraction(shares.share_of_word(rule, word))
                    self.exactly([{answer: fraction(share) for answer, share in told} for told in found], [dict(sorted(totals.items()))])

    def test_walkers(self):
        for rule, one, other in WAYS:
            walker = walkers.Walker(rule, other)
            beside = desk.Desk(rule, other)
            letter, step = farplaces.seeds(rule)[0]
            events = [("jump", letter, 2 * step), ("mark", "here")]
            for _ in range(3):
                events.append(("go", worlds.following(rule, blocks.block_of(rule, letter, 2 * step)[-1:])[0]))
            events += [("swap", one), ("jump", letter, 200), ("mark", "there")]
            for event in events:
                reason = walker.barred(event)
                line = walkertexts.event_line(walkerreadings.read_event(walkertexts.event_line(event)))
                self.exactly(beside.say("bars " + line), reason or "-")
                if reason is None:
                    told = walker.happen(event)
                    self.exactly(beside.say(line), " ".join(map(str, told)))
                    said = walker.said(walker.wakings_now[-1])[-5:]
                    if said:
                        self.exactly(walker.hear(said), tuple(map(int, beside.say("hear " + " ".join(map(str, said))).split(" "))))
                        self.assertIs(set(waking.now_in(walker.machine_now, walker.trail_now[-len(said):], said)) >= set(walker.possible_now), True)
                else:
                    self.assertRaises(InvalidEvent, walker.happen, event)
                    self.assertIs(event[0] != "swap" or not worldstands.may_stand(rule, one, other), True)
            lines = walkertexts.log_lines(walker.log())
            self.exactly(lines[:2], [beside.say("rule"), texts.machine_line(other)])
            self.exactly(" / ".join(lines[2:]) or "-", beside.say("log"))
            self.exactly(walkerreadings.read_log(lines), walker.log())
            self.assertIs(walkers.replayed(walkerreadings.read_log(lines)) == walker, True)
            self.assertIs(walkerevents.is_log(walker.log()), True)

    def test_walkers_and_what_is_forgotten(self):
        for rule, one, other in WAYS:
            for machine in (one, other):
                if forgetting.delay_of(rule, machine) > 38:
                    continue
                word = worlds.words_of(rule, forgetting.delay_of(rule, machine) + 1)[-1]
                walker = walkers.Walker(rule, machine)
                for at, a in enumerate(word):
                    walker.go(a)
                    self.exactly(walker.possible_now, wakings.behind(rule, machine, word[:at + 1]))
                    self.exactly(walker.classes_now, wakings.classes_by(rule, machine, word[:at + 1]))
                    self.exactly(walker.told_now, wakings.standing_told(rule, machine, word[:at + 1]))
                    self.exactly(walker.coming(), worlds.following(rule, word[:at + 1]))
                self.assertIs(walker.settled_now, True)


# Values that no parameter of a name takes.
NONE = (None, True, -1, "0", [], [0], {}, 1 << 70)
WRONG = {
    "rule": NONE + ((), ((0, 2), (1, 0)), ((True, 0), (0,)), [[0, 1], [1, 0]]),
    "machine": NONE + ((), ((0, 0), (1, 0)), (((0, 0), (2, 0)),), [list(part) for part in TURN]),
    "one": NONE + ((), (((0, 0), (0, 0)), ((0, 0),))), "other": NONE + ((), (((0, 0), (0, 0)), ((0, 0),))),
    "reader": NONE + ((), (2, ((1, 0), (0, 0)), (0, 0))), "low": NONE + ((), (2, ((1, 0), (1, 1)), (0, 1))),
    "word": NONE + ((9,), (True,)), "words": NONE + ((), ((),)), "more": NONE + ((9,),), "path": NONE + ((9,),), "goal": NONE + ((0,), (0, 5)),
    "family": NONE + (((0,), (0,)),), "first": NONE[:-1], "second": NONE + ((0,),), "standings": NONE + ((1, 0),), "answers": NONE + ((-1,), (0,)),
    "lead": NONE + ((0,), (0, 2)), "log": NONE + ((("go", 0),),), "event": NONE + (("go", -1), ("undo",)),
    "text": (None, True, -1, [], ()), "lines": (None, True, "rule", ("rule",), [None], ["\n"]),
    "base": NONE[:-1] + (0, 1), "step": NONE[:-1] + (0,), "most": NONE[:-1] + (0,),
}
NUMBERS = ("length", "level", "place", "index", "n", "many", "answer", "number", "begin", "letter", "standing", "letters")
# Right arguments, by their names.
RIGHT = {
    "rule": THUE, "machine": TURN, "one": LAST, "other": LAST, "reader": (2, ((0, 1), (1, 0)), (0, 1)), "word": (0, 1), "length": 3, "letter": 1,
    "level": 3, "place": 5, "index": 1, "path": (0, 1), "n": 1, "most": 5, "standing": 1, "first": (0, 1), "second": (1, 1), "standings": (0,),
    "answers": (0, 1), "lead": (1, 0), "family": ((0, 1), (1, 0)), "goal": (1, 0), "more": (1,), "many": 4, "answer": 1, "base": 3, "number": 9,
    "low": (2, ((0, 1), (1, 0)), (0, 1)), "step": 2, "begin": 1, "text": "go 0", "lines": ["rule 0,1 1,0", "machine 0:0,1:0 1:1,0:1"],
    "event": ("go", 0), "log": (("walker", THUE, TURN), ("go", 0)), "letters": 0,
}
# Where a name stands for something else than it mostly does: a right value, and wrong ones.
OTHERWISE = {
    "count_before": {"other": (1, NONE)}, "place_of": {"other": (1, NONE)}, "parting": {"one": (0, NONE), "other": (1, NONE)},
    "parting_number": {"other": (RIGHT["reader"], NONE + (THUE,))}, "reader_both": {"other": (RIGHT["reader"], NONE + (THUE,))},
    "answers_of": {"first": (0, NONE[:-1])}, "is_word_of": {"word": (5, ())}, "map_round": {"first": ((0, 1), NONE + ((2, 0),))},
    "joined_map": {"first": ((0, 1), NONE + ((2, 0),))}, "grandparents": {"n": (1, NONE[:-1])},
    "parents_of": {"word": ((0, 1), NONE + ((), (9,)))}, "seams_of": {"word": ((0, 1), NONE + ((), (9,)))},
    "is_parent": {"word": ((0, 1), NONE + ((), (9,)))}, "one_parent": {"length": (3, NONE[:-1] + (0,))}, "seams_told": {"length": (3, NONE[:-1] + (0,))},
    "grows": {"rule": (THUE, NONE + ((), ((0, 2), (1, 0))))}, "standings_behind": {"word": ((0, 1), NONE + ((9,),))},
}
JUDGED = {
    "lets_round": ("branch", 1, (0,), (((0,), (1,)),), 0), "lets_alike": ("alike", (0, 1), (0, 1)),
    "lets_family": ("family", (((0, 1), (1, 0)), ((1, 0), (1, 0)), ((0, 1), (0, 1))), 2), "lets_forget": ("rank", 1, ()),
    "lets_pairs": (2, 1, ((0, 2), (1, 3), (2, 0), (3, 1)), ((0, 0, 1, 0), (1, 1, 0, 1), (0, 1, 1, 1), (1, 0, 0, 0))), "is_parent": ((0,), 0, 0),
    "is_event": ("go", 0), "is_log": RIGHT["log"], "is_low": RIGHT["low"], "lets_stand": ("fails", 0, (), (0,)),
}


def wrong_for(name, function):
    """Values that are not as stated for a parameter of a function."""
    if name in OTHERWISE.get(function, {}):
        return OTHERWISE[function][name][1]
    if name in NUMBERS:
        # Sixty-digit numbers are numbers; letters, standings and places may not be so great.
        return NONE if name in ("letter", "standing", "place", "many") and function not in ("level_holding",) else NONE[:-1]
    return WRONG[name]


def right_for(name, function):
    """A value as stated for a parameter of a function."""
    if name == "thing":
        return JUDGED[function]
    return OTHERWISE[function][name][0] if name in OTHERWISE.get(function, {}) else RIGHT[name]


class EachFunction(Case):

    def late_functions(self):
        """The functions of the stages 5 to 23, by their names."""
        for module, told in FUNCTIONS.items():
            if module not in EARLY:
                for text in told:
                    yield getattr(importlib.import_module("ledalong." + module), text.split("(")[0])

    def test_each_argument_not_as_stated(self):
        count = 0
        for function in self.late_functions():
            if function.__name__ in ("is_event", "is_log", "is_low"):
                self.assertIs(function(JUDGED[function.__name__]), True)
                for value in NONE:
                    self.assertIs(function(value), False)
                continue
            names = [name for name, part in inspect.signature(function).parameters.items() if part.kind != part.KEYWORD_ONLY]
            right = {name: right_for(name, function.__name__) for name in names}
            if function.__name__ == "lets_stand":
                right["one"], right["thing"] = LATE, worldpapers.stand_paper(THUE, LATE, LAST)
            if function.__name__ == "agree_behind":
                right["one"] = AGAIN
            wrong = {name: wrong_for(name, function.__name__) for name in names if name != "thing"}
            wrong = {name: values for name, values in wrong.items() if values}
            self.refuses_each(function, right, wrong)
            count += 1
            if "letters" in inspect.signature(function).parameters:
                for value in NONE[:-1]:
                    self.refused("letters", function, *right.values(), letters=value)
                    self.refused("rule", function, None, *list(right.values())[1:], letters=value)
        self.assertGreater(count, 90)

    def test_each_class(self):
        made = {"Families": {"rule": THUE, "machine": TURN}, "Forgetting": {"rule": THUE, "machine": TURN},
                "AnswerRow": {"rule": THUE, "machine": TURN, "letter": 1, "standing": 0}, "Along": {"rule": THUE, "one": LAST, "other": AGAIN},
                "Walker": {"rule": THUE, "machine": TURN}, "Desk": {"rule": THUE, "machine": TURN}}
        for module, told in CLASSES.items():
            if module not in EARLY:
                for text in told:
                    maker = getattr(importlib.import_module("ledalong." + module), text.split("(")[0])
                    right = made.pop(maker.__name__)
                    self.refuses_each(maker, right, {name: wrong_for(name, maker.__name__) for name in right})
        self.assertEqual(made, {})

    def test_rules_that_do_not_grow_and_machines_that_do_not_fit(self):
        still, narrow = ((0, 1), (1, 1)), (((0, 0),),)
        for function in self.late_functions():
            names = list(inspect.signature(function).parameters)
            right = [right_for(name, function.__name__) for name in names if name != "letters"]
            if names[0] == "rule" and len(names) > 1 and names[1] in ("machine", "one"):
                self.refused(names[1], function, right[0], narrow, *right[2:])
                if function.__module__.split(".")[1] not in ("families", "familypapers") and function.__name__ != "answer_reader":
                    self.refused("rule", function, still, *right[1:])
                    self.refused("rule", function, still, narrow, *right[2:])

    def test_methods(self):
        walker = walkers.Walker(THUE, TURN)
        it = alongclasses.Along(THUE, LAST, AGAIN)
        row = answerrows.AnswerRow(THUE, TURN, 0, 0)
        told = forgetclasses.Forgetting(THUE, LAST)
        for value in NONE:
            for function, name in ((it.__getitem__, "standing"), (it, "word"), (walker.__getitem__, "waking"), (walker.said, "waking"),
                                   (walker.since, "name"), (row.from_standing, "standing"), (told, "word"), (told.classes, "word"), (told.told, "word")):
                self.refused(name, function, value)
            self.refused("waking", told.meets, value, 0, ())
            self.refused("other", told.meets, 0, value, ())
            self.refused("word", told.meets, 0, 0, value)
            self.refused("more", told.carried, (0,), value)
            self.assertRaises(InvalidEvent, walker.happen, value)
            self.assertRaises(InvalidRow, desk.Desk(THUE, TURN).say, value)
        for value in NONE[:-1]:
            for function, name in ((row.__getitem__, "place"), (row.counted, "many"), (row.first_place, "answer"), (it.may, "letters"),
                                   (it.fails, "letters"), (it.paper, "letters"), (familyclasses.Families(THUE, TURN).__getitem__, "level")):
                self.refused(name, function, value)
            self.refused("letters", it.judged, None, value)
            self.refused("level", familyclasses.Families(THUE, TURN), 0, value)

    def test_errors_have_one_base(self):
        for function, arguments in ((worlds.grows, (None,)), (worldpapers.lets_stand, (THUE, LAST, LAST, None)), (walkerreadings.read_event, ("x",)),
                                    (walkers.Walker(THUE, TURN).go, (9,)), (walkers.Walker(THUE, TURN).undo, ()), (desk.Desk(THUE, TURN).say, (None,))):
            with self.assertRaises(LedError) as caught:
                function(*arguments)
            self.assertIsInstance(caught.exception, ValueError)


class Bounds(Case):
    """Guarantees over several parts."""

    def test_far_levels_told_twice(self):
        # (G1), (G3): by counts, by the reader, by the row, by the walker.
        for standing in (0, 1):
            for level in (57, 200):
                length = blocks.length_of(THUE, 0, level)
                goal = families.block_map(THUE, TURN, 0, level)[standing]
                walker = walkers.Walker(THUE, TURN)
                walker.jump(0, level)
                self.exactly([walker[standing], walker.gone_now], [goal, length])
                row = answerrows.AnswerRow(THUE, TURN, 0, standing)
                self.exactly(row[length][1], goal)
                self.exactly(walker.said(standing), row(length - 40, 40))
                shown = answerreaders.answer_reader(THUE, TURN, standing)
                self.exactly(walker.said(standing), tuple(readers.number_read(shown, length - 40 + k) for k in range(40)))
                self.exactly(row.counted(length), answercounts.counts_of(THUE, TURN, 0, standing, level, length))

    def test_agreement_behind_delays(self):
        # (G4)
        for rule, one, other in WAYS:
            if forgetting.forgets(rule, one) and forgetting.forgets(rule, other):
                most = max(forgetting.delay_of(rule, one), forgetting.delay_of(rule, other))
                self.assertIs(endlooks.agree_behind(rule, one, other), worldstands.failing_word(rule, one, other, letters=most) is None)
                self.assertIs(endlooks.agree_behind(rule, one, other), endlooks.agree_behind(rule, other, one))


if __name__ == "__main__":
    unittest.main()
