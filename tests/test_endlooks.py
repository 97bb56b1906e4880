"""[83], [84], [85]: how machines agree behind words of a world."""

import functools
import unittest

from ledalong.endlooks import agree_behind, plain_word
from ledalong.forgetting import delay_of, forgets
from ledalong.worlds import words_of
from ledalong.worldstands import may_stand
from tests import plain
from tests.samples import GOLD, LAST, LONG, NO_GROWING, SLOW, THUE, TURN, Case, no_fitting
from tests.test_forgetting import rows_of
from tests.test_worldstands import AGAIN, KEEP, LATE, NEVER, TRIPLES, ZERO

FAR = 40


@functools.lru_cache(None)
def far_words(rule):
    """All words of forty letters."""
    return words_of(rule, FAR)


@functools.lru_cache(None)
def plain_delay(rule, machine):
    """The least number of letters behind all words with so many of which one standing alone is left, or None."""
    for length in range(FAR + 1):
        if all(len(set(plain.goals(machine, word))) == 1 for word in words_of(rule, length)):
            return length
    return None


def plain_agree(rule, one, other, delay):
    """Whether both give the same last answer to each word with one letter more, from any standings."""
    for word in words_of(rule, delay + 1):
        answers = {plain.run(one, s, word)[1][-1] for s in range(len(one))}
        answers |= {plain.run(other, t, word)[1][-1] for t in range(len(other))}
        if len(answers) > 1:
            return False
    return True


def left_behind(one, other, word):
    """Pairs of where a word leads a standing of one, and where such of other as answer alike."""
    pairs = set()
    for s in range(len(one)):
        goal, told = plain.run(one, s, word)
        for t in range(len(other)):
            late, answers = plain.run(other, t, word)
            if answers == told:
                pairs.add((goal, late))
    return pairs


def word_against(rule, one, other, word):
    """A word of forty letters that begins with this one, and behind it shows that some pair is unlike; or None."""
    pairs = left_behind(one, other, word)
    for far in far_words(rule):
        if far[:len(word)] == word:
            for q, t in pairs:
                if plain.run(one, q, far[len(word):])[1] != plain.run(other, t, far[len(word):])[1]:
                    return far
    return None


class EndLooks(Case):

    def test_agree_behind(self):
        told = []
        for rule, one, other in TRIPLES:
            delays = plain_delay(rule, one), plain_delay(rule, other)
            if None not in delays and max(delays) < 14:
                agree = agree_behind(rule, one, other)
                told.append((agree, delays[0] == delays[1]))
                self.assertIs(agree, plain_agree(rule, one, other, max(delays)))
                self.assertIs(agree_behind(rule=rule, one=one, other=other), agree)
                # [85]
                self.assertIs(agree_behind(rule, other, one), agree)
                self.assertIs(may_stand(rule, one, other, letters=max(delays)), agree)
        self.assertGreater(min(told.count((agree, same)) for agree in (True, False) for same in (True, False)), 4)

    def test_delays_unlike(self):
        # By LONG there are thirty-one letters without 2, at most; KEEP forgets at 2 alone.
        self.exactly([delay_of(LONG, KEEP), delay_of(LONG, NEVER)], [32, 0])
        self.exactly([agree_behind(LONG, KEEP, NEVER), agree_behind(LONG, NEVER, KEEP), agree_behind(LONG, NEVER, NEVER)],
                     [True, True, True])
        loud = tuple(part[:1] + ((part[1][0], 5),) + part[2:] for part in KEEP)
        self.exactly([agree_behind(LONG, loud, KEEP), agree_behind(LONG, loud, NEVER), agree_behind(LONG, loud, loud)],
                     [False, False, True])
        self.exactly([agree_behind(THUE, ZERO, ZERO), agree_behind(THUE, ZERO, (((0, 0), (0, 1)),))], [True, False])

    def test_plain_word(self):
        lengths = []
        for rule, one, other in TRIPLES:
            word = plain_word(rule, one, other)
            self.exactly(plain_word(rule=rule, one=one, other=other), word)
            if not may_stand(rule, one, other):
                self.assertIsNone(word)
                continue
            lengths.append(len(word))
            if len(word) > 0:
                self.assertTrue(any(far[:len(word)] == word for far in far_words(rule)))
            self.assertIsNone(word_against(rule, one, other, word))
            # ((G5)) For each standing of one there is some standing of other.
            self.assertEqual({q for q, _ in left_behind(one, other, word)}, set(plain.goals(one, word)))
            for length in range(len(word) + 1):
                for less in words_of(rule, length):
                    if length < len(word) or less < word:
                        self.assertIsNotNone(word_against(rule, one, other, less), (rule, one, other, less))
        self.assertGreater(len(lengths), 40)
        self.assertTrue(set(lengths) >= {0, 1, 2})

    def test_words_with_a_plain_word_within(self):
        for rule, one, other in TRIPLES[::3]:
            word = plain_word(rule, one, other)
            if word is not None and len(word) > 0:
                for far in [far for length in range(len(word), len(word) + 3) for far in rows_of(rule)[min(length, 12)]][::5]:
                    if plain.stands(word, far) >= 0:
                        self.assertIsNone(word_against(rule, one, other, far))

    def test_long_plain_words(self):
        # A pair is told apart by 2 alone, which comes once in sixteen letters.
        count = tuple(((q, 0), (q, 0), ((q + 1) % 2, q)) for q in range(2))
        self.exactly([plain_word(LONG, count, count), plain_word(LONG, NEVER, NEVER), plain_word(LONG, count, NEVER)],
                     [(2,), (), None])
        both = KEEP + (((0, 0), (0, 0), (0, 0)),)
        self.exactly(plain_word(LONG, NEVER, both), (0,))
        # From here on the other one is told only by what stands around two 2.
        rings = tuple(((q, 0), (q, 0), ((q + 1) % 3, int(q == 2))) for q in range(3))
        word = plain_word(LONG, rings, rings)
        self.exactly([word.count(2), word[0], word[-1]], [2, 2, 2])
        self.assertLess(len(word), 33)
        # By this rule blocks are as unlike in length as can be.
        rings = tuple(((q, 0), ((q + 1) % 3, int(q == 2))) for q in range(3))
        for rule in (((0, 0, 0, 1), (0,)), ((0, 0, 0, 1), (2,), (0,))):
            wide = tuple(part + part[:1] * (len(rule) - 2) for part in rings)
            self.exactly(plain_word(rule, wide, wide), min((far[:length] for length in (5, 6) for far in far_words(rule)
                                                            if far[:length].count(1) == 2), key=lambda far: (len(far), far)))

    def test_edges(self):
        single, two = (((0, 3),),), (((0, 4),),)
        self.exactly([plain_word(((0, 0),), single, single), plain_word(((0, 0),), single, two), agree_behind(((0, 0),), single, two)],
                     [(), None, False])
        ring = tuple((((q + 1) % 3, int(q == 2)),) for q in range(3))
        self.exactly(plain_word(((0, 0),), ring, ring), (0, 0))
        self.exactly(plain_word(THUE, TURN, TURN), (0,))

    def test_refusals(self):
        wrong = {"rule": NO_GROWING, "one": no_fitting(2), "other": no_fitting(2)}
        for rule, one, other in ((THUE, LAST, ZERO), (GOLD, AGAIN, LAST)):
            for function in (agree_behind, plain_word):
                self.refuses_each(function, {"rule": rule, "one": one, "other": other}, wrong)

    def test_machines_that_do_not_forget(self):
        for rule, one, other in TRIPLES:
            if not forgets(rule, one):
                self.refused("one", agree_behind, rule, one, other)
            elif not forgets(rule, other):
                self.refused("other", agree_behind, rule, one, other)
        self.refused("one", agree_behind, THUE, TURN, TURN)
        self.refused("other", agree_behind, THUE, LAST, TURN)
        # What is no machine is refused ahead of that.
        self.refused("other", agree_behind, THUE, TURN, NEVER)
        self.refused("other", agree_behind, THUE, TURN, None)
        self.exactly([agree_behind(GOLD, SLOW, SLOW), forgets(GOLD, SLOW), agree_behind(GOLD, LATE, LAST)], [True, True, True])


if __name__ == "__main__":
    unittest.main()
