"""What a machine forgets along a rule as an object that never changes."""

from ledalong.forgetting import memory_in, settled_in
from ledalong.helper import map_in, need, rank_in
from ledalong.kinds import is_below
from ledalong.wakings import behind, carried_on, classes_by, standing_told
from ledalong.worldmaps import need_growing
from ledalong.worlds import stands_in


class Forgetting:
    """What a machine forgets of its waking."""

    def __init__(self, rule, machine):
        need_growing(rule, machine)
        self._rule = rule
        self._machine = machine
        self._memory = memory_in(rule, machine)
        self._delay, self._sets = settled_in(rule, machine)

    @property
    def rule_now(self):
        """The rule."""
        return self._rule

    @property
    def machine_now(self):
        """The machine."""
        return self._machine

    @property
    def memory_now(self):
        """The least rank of a map of a word of the rule."""
        return self._memory

    @property
    def delay_now(self):
        """The least number of letters such that all words with so many settle the machine."""
        return self._delay

    @property
    def sets_now(self):
        """The set of the sets of standings behind words that settle the machine."""
        return self._sets

    def classes(self, word):
        """The set of the sets of all wakings that the word leads to one standing."""
        return classes_by(self._rule, self._machine, word)

    def told(self, word):
        """The standing behind the word, if there is one alone, or None."""
        return standing_told(self._rule, self._machine, word)

    def carried(self, word, more):
        """Pairs of each standing behind the word and the one to which more letters lead from it."""
        return carried_on(self._rule, self._machine, word, more)

    def meets(self, waking, other, word):
        """Whether the word leads both wakings to one standing."""
        need(is_below(waking, len(self._machine)), "waking")
        need(is_below(other, len(self._machine)), "other")
        need(stands_in(self._rule, word), "word")
        lead = map_in(self._machine, word)
        return lead[waking] == lead[other]

    def __call__(self, word):
        return behind(self._rule, self._machine, word)

    def __contains__(self, x):
        return stands_in(self._rule, x) and rank_in(map_in(self._machine, x)) == self._memory

    def __len__(self):
        # Each of the sets has as many standings as the memory tells.
        return len(self._sets[0])

    def __iter__(self):
        return iter(self._sets)

    def __eq__(self, other):
        return isinstance(other, Forgetting) and self._rule == other._rule and self._machine == other._machine

    def __str__(self):
        return f"{self._memory} of {len(self._machine)} behind {self._delay}"
