"""Rules, machines and readers as objects that never change."""

from ledalong.changes import led_behind
from ledalong.helper import led, need, shown
from ledalong.judges import lets_machine, lets_reader, lets_rule
from ledalong.kinds import are_below, is_below, is_number
from ledalong.readings import machine_read, reader_read, rule_read
from ledalong.ruleparts import becomes, power, turned
from ledalong.texts import machine_line, reader_line, rule_line


class Rule:
    """A rule."""

    def __init__(self, blocks):
        self._even = lets_rule(blocks)[1]
        self._blocks = blocks

    @staticmethod
    def read(text):
        """The Rule of the rule that the text writes."""
        return Rule(rule_read(text))

    @property
    def rule_now(self):
        """The rule."""
        return self._blocks

    @property
    def even_now(self):
        """Whether all blocks are equally long."""
        return self._even

    def __getitem__(self, at):
        need(is_below(at, len(self._blocks)), "letter")
        return self._blocks[at]

    def __call__(self, word):
        return becomes(self._blocks, word)

    def __pow__(self, other):
        return Rule(power(self._blocks, other))

    def __invert__(self):
        return Rule(turned(self._blocks))

    def __contains__(self, x):
        return are_below(x, len(self._blocks))

    def __len__(self):
        return len(self._blocks)

    def __iter__(self):
        return iter(self._blocks)

    def __eq__(self, other):
        return isinstance(other, Rule) and self._blocks == other._blocks

    def __str__(self):
        return str(rule_line(self._blocks))


class Machine:
    """A machine."""

    def __init__(self, standings):
        self._letters = lets_machine(standings)[1]
        self._standings = standings

    @staticmethod
    def read(text):
        """The Machine of the machine that the text writes."""
        return Machine(machine_read(text))

    @property
    def machine_now(self):
        """The machine."""
        return self._standings

    @property
    def letters_now(self):
        """How many letters it has."""
        return self._letters

    def __getitem__(self, at):
        need(is_below(at, len(self._standings)), "standing")
        return self._standings[at]

    def __call__(self, standing, word):
        need(is_below(standing, len(self._standings)), "standing")
        need(are_below(word, self._letters), "word")
        return led(self._standings, standing, word)

    def __add__(self, other):
        need(isinstance(other, Machine), "other")
        return Machine(led_behind(self._standings, other._standings))

    def __contains__(self, x):
        return is_number(x) and x in [answer for standing in self._standings for _, answer in standing]

    def __len__(self):
        return len(self._standings)

    def __iter__(self):
        return iter(self._standings)

    def __eq__(self, other):
        return isinstance(other, Machine) and self._standings == other._standings

    def __str__(self):
        return str(machine_line(self._standings))


class Reader:
    """A reader."""

    def __init__(self, base, moves, shows):
        lets_reader((base, moves, shows))
        self._reader = (base, moves, shows)
        self._places = tuple(zip(moves, shows))

    @staticmethod
    def read(text):
        """The Reader of the reader that the text writes."""
        base, moves, shows = reader_read(text)
        return Reader(base, moves, shows)

    @property
    def reader_now(self):
        """The reader."""
        return self._reader

    @property
    def base_now(self):
        """The base of the digits that it reads."""
        return self._reader[0]

    def __getitem__(self, at):
        need(is_below(at, len(self._places)), "place")
        return self._places[at]

    def __call__(self, number):
        need(is_number(number), "number")
        return shown(self._reader, number)

    def __contains__(self, x):
        return is_number(x) and x in self._reader[2]

    def __len__(self):
        return len(self._places)

    def __iter__(self):
        return iter(self._places)

    def __eq__(self, other):
        return isinstance(other, Reader) and self._reader == other._reader

    def __str__(self):
        return str(reader_line(self._reader))
