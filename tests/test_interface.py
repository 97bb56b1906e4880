"""The interface: names, parameters, and the files in which they are defined."""

import importlib
import inspect
import unittest

FUNCTIONS = {
    "kinds": ("is_integer(thing)", "is_number(thing)", "is_word(rule, thing)", "is_rule(thing)", "is_machine(thing)",
              "is_standing(machine, thing)", "is_reader(thing)"),
    "judges": ("lets_rule(thing)", "lets_machine(thing)", "lets_reader(thing)"),
    "ruleparts": ("letters_of(rule)", "becomes(rule, word)", "turned(rule)", "power(rule, n)", "renamed(rule, names)"),
    "changes": ("standings_renamed(machine, order)", "cut_to(machine, standings)", "answers_renamed(machine, answers)",
                "letters_by(machine, words)", "led_behind(machine, other)"),
    "texts": ("rule_line(rule)", "word_line(word)", "machine_line(machine)", "reader_line(reader)"),
    "readings": ("rule_read(text)", "word_read(text)", "machine_read(text)", "reader_read(text)"),
    "worlds": ("grows(rule)", "legal_pairs(rule)", "is_word_of(rule, word)", "words_of(rule, length)",
               "following(rule, word)", "ahead_of(rule, word)"),
    "again": ("level_of_word(rule, word)", "stretch_of_word(rule, word)", "first_in(rule, letter, word)"),
    "wordcounts": ("how_many(rule, length)", "branching(rule, length)"),
    "roundness": ("comes_round(rule)", "round_paper(rule)", "lets_round(rule, thing)"),
    "blocks": ("block_of(rule, letter, level)", "length_of(rule, letter, level)", "lengths_of(rule, letter, level)",
               "counts_in(rule, letter, level)"),
    "farplaces": ("letter_at(rule, letter, level, place)", "word_at(rule, letter, level, place, length)",
                  "path_to(rule, letter, level, place)", "place_by(rule, letter, path)",
                  "count_before(rule, letter, level, place, other)", "place_of(rule, letter, level, other, index)",
                  "seeds(rule)", "level_holding(rule, letter, place)"),
    "leading": ("leads(machine, standing, word)", "answers_to(machine, standing, word)", "map_of(machine, word)",
                "rank_of(machine, word)", "joined_map(first, second)", "map_round(first)"),
    "waking": ("standings_behind(machine, standings, word)", "woke_as(machine, word, answers)",
               "now_in(machine, word, answers)"),
    "allmaps": ("all_maps(machine)", "least_word_for(machine, lead)", "least_settling(machine)"),
    "likeness": ("alike_standings(machine)", "merged(machine)", "parting(machine, one, other)", "homing_word(machine)",
                 "is_closed_set(machine, standings)", "closed_sets(machine)"),
    "replacing": ("are_alike(one, other)", "may_replace(one, other)", "unmet(one, other)"),
    "likepapers": ("alike_paper(one, other)", "lets_alike(one, other, thing)"),
    "families": ("family_of(rule, machine, level)", "block_map(rule, machine, letter, level)", "start_of(rule, machine)",
                 "period_of(rule, machine)", "level_of_family(rule, machine, family)"),
    "worldmaps": ("maps_in_world(rule, machine)", "word_with_map(rule, machine, goal)"),
    "familypapers": ("family_paper(rule, machine)", "lets_family(rule, machine, thing)"),
    "forgetting": ("memory_of(rule, machine)", "forgets(rule, machine)", "settling_word(rule, machine)",
                   "delay_of(rule, machine)", "sets_behind(rule, machine)"),
    "wakings": ("settles(rule, machine, word)", "behind(rule, machine, word)", "classes_by(rule, machine, word)",
                "standing_told(rule, machine, word)", "carried_on(rule, machine, word, more)"),
    "forgetpapers": ("forget_paper(rule, machine)",),
    "forgetchecker": ("lets_forget(rule, machine, thing)",),
    "pairrules": ("pair_rule(rule, machine)", "pair_words(rule, machine)", "pair_paper(rule, machine)",
                  "lets_pairs(rule, machine, thing)"),
    "faranswers": ("answers_of(rule, machine, letter, standing, level, first, many)",
                   "standing_at(rule, machine, letter, standing, level, place)",
                   "answer_at(rule, machine, letter, standing, level, place)"),
    "answercounts": ("counts_of(rule, machine, letter, standing, level, many)",
                     "first_of(rule, machine, letter, standing, level, answer)"),
    "worldstands": ("may_stand(rule, one, other, *, letters=0)", "failing_word(rule, one, other, *, letters=0)",
                    "least_letters(rule, one, other)"),
    "worldpapers": ("stand_paper(rule, one, other, *, letters=0)", "lets_stand(rule, one, other, thing, *, letters=0)"),
    "endlooks": ("agree_behind(rule, one, other)", "plain_word(rule, one, other)"),
    "readers": ("digits_of(base, number)", "number_read(reader, number)", "reader_of(rule)", "rule_of(reader)",
                "least_reader(reader)", "parting_number(reader, other)", "reader_both(reader, other)"),
    "kernels": ("is_low(thing)", "low_read(low, number)", "kernel_of(reader)", "reader_from(low)",
                "every(reader, step, begin)"),
    "shares": ("shares_of(rule)", "pair_shares(rule)", "share_of_word(rule, word)"),
    "answerreaders": ("answer_shares(rule, machine)", "answer_reader(rule, machine, standing)"),
    "walkerevents": ("is_event(thing)", "is_log(thing)"),
    "walkers": ("replayed(log)",),
    "walkertexts": ("event_line(event)", "log_lines(log)"),
    "walkerreadings": ("read_event(text)", "read_log(lines)"),
    "parents": ("parents_of(rule, word)", "is_parent(rule, word, thing)", "grandparents(rule, word, n)",
                "one_parent(rule, length)", "seams_of(rule, word)", "seams_told(rule, length)", "told_from(rule, most)"),
}
COMMON = ("read(text)", "__init__", "__getitem__", "__call__(self, word)", "__contains__", "__len__", "__iter__", "__eq__")
CLASSES = {
    "objects": {
        "Rule(blocks)": COMMON + ("rule_now", "even_now", "__pow__", "__invert__", "__str__"),
        "Machine(standings)": COMMON[:3] + ("__call__(self, standing, word)",) + COMMON[4:] + (
            "machine_now", "letters_now", "__add__", "__str__"),
        "Reader(base, moves, shows)": COMMON[:3] + ("__call__(self, number)",) + COMMON[4:] + (
            "reader_now", "base_now", "__str__"),
    },
    "familyclasses": {
        "Families(rule, machine)": COMMON[1:3] + ("__call__(self, letter, level)",) + COMMON[4:] + (
            "rule_now", "machine_now", "start_now", "period_now"),
    },
    "forgetclasses": {
        "Forgetting(rule, machine)": COMMON[1:2] + COMMON[3:] + (
            "rule_now", "machine_now", "memory_now", "delay_now", "sets_now", "classes(self, word)", "told(self, word)",
            "carried(self, word, more)", "meets(self, waking, other, word)", "__str__"),
    },
    "answerrows": {
        "AnswerRow(rule, machine, letter, standing)": COMMON[1:3] + ("__call__(self, first, many)", "__contains__", "__eq__") + (
            "rule_now", "machine_now", "letter_now", "standing_now", "step_now", "answers_now", "counted(self, many)",
            "first_place(self, answer)", "from_standing(self, standing)"),
    },
    "alongclasses": {
        "Along(rule, one, other)": COMMON[1:] + (
            "rule_now", "one_now", "other_now", "pairs_now", "shows(self, thing)", "turned_about(self)", "may(self, letters=0)",
            "fails(self, letters=0)", "paper(self, letters=0)", "judged(self, thing, letters=0)", "least(self)", "agree(self)",
            "plain(self)"),
    },
    "walkers": {
        "Walker(rule, machine)": COMMON[1:3] + COMMON[4:] + (
            "rule_now", "machine_now", "gone_now", "trail_now", "names_now", "wakings_now", "possible_now", "told_now",
            "rank_now", "settled_now", "classes_now", "happen(self, event)", "go(self, letter)", "jump(self, letter, level)",
            "hear(self, answers)", "swap(self, machine)", "mark(self, name)", "undo(self)", "do_all(self, *events, keep=False)",
            "barred(self, event)", "tried(self, *events)", "said(self, waking)", "coming(self)", "since(self, name)",
            "log(self)", "counts(self)", "__iadd__", "MOST"),
    },
    "desk": {"Desk(rule, machine)": ("__init__", "say(self, row)")},
}


class Interface(unittest.TestCase):

    def test_functions(self):
        for name, told in FUNCTIONS.items():
            module = importlib.import_module("ledalong." + name)
            for text in told:
                function = getattr(module, text.split("(")[0])
                self.assertTrue(inspect.isfunction(function))
                self.assertEqual(function.__module__, "ledalong." + name)
                self.assertEqual(function.__name__ + str(inspect.signature(function)), text)

    def test_classes(self):
        for name, classes in CLASSES.items():
            module = importlib.import_module("ledalong." + name)
            for text, parts in classes.items():
                made = getattr(module, text.split("(")[0])
                self.assertTrue(inspect.isclass(made))
                self.assertEqual(made.__module__, "ledalong." + name)
                self.assertEqual(made.__name__ + str(inspect.signature(made)), text)
                for part in parts:
                    self.assertIn(part.split("(")[0], vars(made))
                    if "(" in part:
                        self.assertEqual(str(inspect.signature(getattr(made, part.split("(")[0]))), "(" + part.split("(")[1])
                    if part.endswith("_now"):
                        self.assertIsInstance(vars(made)[part], property)
                if "read(text)" in parts:
                    self.assertIsInstance(vars(made)["read"], staticmethod)


if __name__ == "__main__":
    unittest.main()
