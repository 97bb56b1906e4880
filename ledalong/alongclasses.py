"""Two machines along a rule as an object that never changes."""

from ledalong.endlooks import agree_behind, agreeing_pairs, plain_word
from ledalong.helper import need
from ledalong.kinds import is_below, is_same
from ledalong.replacing import followed
from ledalong.worldpapers import lets_stand, stand_paper
from ledalong.worlds import stands_in
from ledalong.worldstands import failing_word, least_letters, may_stand, need_two


class Along:
    """Whether one machine may replace another one along a rule."""

    def __init__(self, rule, one, other):
        need_two(rule, one, other)
        self._rule = rule
        self._one = one
        self._other = other
        self._pairs = agreeing_pairs(rule, one, other)

    @property
    def rule_now(self):
        """The rule."""
        return self._rule

    @property
    def one_now(self):
        """The machine that may replace the other one, or may not."""
        return self._one

    @property
    def other_now(self):
        """The other machine."""
        return self._other

    @property
    def pairs_now(self):
        """The set of the pairs of standings that give the same answers along each word of the rule."""
        return self._pairs

    def shows(self, thing):
        """Whether any value is a word of the rule that shows that one may not replace other."""
        return stands_in(self._rule, thing) and any([lot == () for _, lot in led_beside(self._one, self._other, thing)])

    def turned_about(self):
        """The same with both machines in each other's place."""
        return Along(self._rule, self._other, self._one)

    def may(self, letters=0):
        """Whether one may replace other after so many letters."""
        return may_stand(self._rule, self._one, self._other, letters=letters)

    def fails(self, letters=0):
        """The least waking and words that show that one may not replace other after so many letters, or None."""
        return failing_word(self._rule, self._one, self._other, letters=letters)

    def paper(self, letters=0):
        """A paper on whether one may replace other after so many letters."""
        return stand_paper(self._rule, self._one, self._other, letters=letters)

    def judged(self, thing, letters=0):
        """True for a paper that one may replace other after so many letters, False for one that it may not."""
        return lets_stand(self._rule, self._one, self._other, thing, letters=letters)

    def least(self):
        """The least number of letters after which one may replace other, or None."""
        return least_letters(self._rule, self._one, self._other)

    def agree(self):
        """Whether both, as they have forgotten, give the same answers."""
        return agree_behind(self._rule, self._one, self._other)

    def plain(self):
        """The least word behind which other, as far as it has answered alike, answers as one for ever; or None."""
        return plain_word(self._rule, self._one, self._other)

    def __getitem__(self, at):
        need(is_below(at, len(self._one)), "standing")
        return tuple([t for s, t in self._pairs if s == at])

    def __call__(self, word):
        need(stands_in(self._rule, word), "word")
        return led_beside(self._one, self._other, word)

    def __contains__(self, x):
        return any([is_same(x, pair) for pair in self._pairs])

    def __len__(self):
        return len(self._pairs)

    def __iter__(self):
        return iter(self._pairs)

    def __eq__(self, other):
        return (isinstance(other, Along) and self._rule == other._rule and self._one == other._one
                and self._other == other._other)


def led_beside(one, other, word):
    """For each standing of one where the word leads it, and the set of those of other to which, answering alike."""
    told = []
    for standing in range(len(one)):
        state = (standing, tuple(range(len(other))))
        for a in word:
            state = followed(one, other, state, a)
        told.append(state)
    return tuple(told)
