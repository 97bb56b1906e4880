"""The families of a rule and a machine as an object that never changes."""

from ledalong.families import families_in, need_fitting, turned_back
from ledalong.helper import need
from ledalong.kinds import is_below, is_number, is_same


class Families:
    """The families of all levels."""

    def __init__(self, rule, machine):
        need_fitting(rule, machine)
        self._rule = rule
        self._machine = machine
        families, start = families_in(rule, machine)
        self._families = tuple(families)
        self._start = start

    @property
    def rule_now(self):
        """The rule."""
        return self._rule

    @property
    def machine_now(self):
        """The machine."""
        return self._machine

    @property
    def start_now(self):
        """The least level from which on families come again."""
        return self._start

    @property
    def period_now(self):
        """Behind how many levels families come again."""
        return len(self._families) - self._start

    def __getitem__(self, at):
        need(is_number(at), "level")
        return self._families[turned_back(at, self._start, len(self._families))]

    def __call__(self, letter, level):
        need(is_below(letter, len(self._rule)), "letter")
        return self[level][letter]

    def __contains__(self, x):
        return any([is_same(x, family) for family in self._families])

    def __len__(self):
        return len(self._families)

    def __iter__(self):
        return iter(self._families)

    def __eq__(self, other):
        return isinstance(other, Families) and self._rule == other._rule and self._machine == other._machine
