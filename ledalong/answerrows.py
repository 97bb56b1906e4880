"""The answers of a machine along a row without an end, as an object that never changes."""

from ledalong.answercounts import answers_in, counts_among, letter_firsts, next_firsts
from ledalong.families import next_family
from ledalong.faranswers import answers_along, heard_at
from ledalong.farplaces import seed_level
from ledalong.helper import added_up, letter_maps, need
from ledalong.kinds import is_below, is_number
from ledalong.worldmaps import need_growing


class AnswerRow:
    """The answers along the row that grows from a letter, begun in a standing."""

    def __init__(self, rule, machine, letter, standing):
        need_growing(rule, machine)
        need(is_below(letter, len(rule)) and seed_level(rule, letter) > 0, "letter")
        need(is_below(standing, len(machine)), "standing")
        self._rule = rule
        self._machine = machine
        self._letter = letter
        self._standing = standing
        self._step = seed_level(rule, letter)
        self._answers = answers_in_row(rule, machine, letter, standing)

    @property
    def rule_now(self):
        """The rule."""
        return self._rule

    @property
    def machine_now(self):
        """The machine."""
        return self._machine

    @property
    def letter_now(self):
        """The letter from which the row grows."""
        return self._letter

    @property
    def standing_now(self):
        """The standing in which the row is begun."""
        return self._standing

    @property
    def step_now(self):
        """The least level from 1 on at which the block of the letter begins with it."""
        return self._step

    @property
    def answers_now(self):
        """The set of all answers that come in the row."""
        return self._answers

    def counted(self, many):
        """Pairs of each answer among the first many ones, and how often it comes there."""
        need(is_number(many), "many")
        rows = rows_holding(self._rule, self._letter, self._step, many)
        return counts_among(self._rule, self._machine, rows, (self._letter, self._standing), many)

    def first_place(self, answer):
        """The first place at which the answer is given, or None."""
        need(is_number(answer), "answer")
        if answer not in self._answers:
            return None
        return first_in_row(self._rule, self._machine, self._letter, self._standing, answer)

    def from_standing(self, standing):
        """The same row, begun in this standing."""
        return AnswerRow(self._rule, self._machine, self._letter, standing)

    def __getitem__(self, at):
        need(is_number(at), "place")
        rows = rows_holding(self._rule, self._letter, self._step, at)
        return heard_at(self._rule, self._machine, rows, (self._letter, self._standing), at)

    def __call__(self, first, many):
        need(is_number(first), "first")
        need(is_number(many), "many")
        rows = rows_holding(self._rule, self._letter, self._step, first + many)
        return answers_along(self._rule, self._machine, rows, (self._letter, self._standing), first, many)

    def __contains__(self, x):
        return is_number(x) and x in self._answers

    def __iter__(self):
        raise TypeError("a row has no end")

    def __eq__(self, other):
        return (isinstance(other, AnswerRow) and self._rule == other._rule and self._machine == other._machine
                and self._letter == other._letter and self._standing == other._standing)


def rows_holding(rule, letter, step, place):
    """The lengths of all blocks of the levels up to one whose block of the letter begins the row and has the place.

    Blocks of the levels 0, step, 2 * step, and so on begin the row.
    """
    rows = [[1 for _ in rule]]
    while rows[-1][letter] <= place or (len(rows) - 1) % step > 0:
        rows.append(added_up(rule, rows[-1]))
    return rows


def answers_in_row(rule, machine, letter, standing):
    """The set of the answers that come in the row of a letter that is begun in a standing.

    A state is a family, the lots of answers that come in the blocks of its level, and how far this level is
    from one whose block begins the row. States come round, so no others come later. A lot of answers is
    kept as the sum of the 1 << k, k being the index of an answer.
    """
    answers = answers_in(machine)
    step = seed_level(rule, letter)
    lots = tuple([tuple([1 << answers.index(part[a][1]) for part in machine]) for a in range(len(rule))])
    state = (letter_maps(machine), lots, 0)
    states = {}
    found = 0
    while state not in states:
        states[state] = True
        family, lots, phase = state
        if phase == 0:
            found = found | lots[letter][standing]
        late = tuple([tuple([lot_along(family, lots, block, q) for q in range(len(machine))]) for block in rule])
        state = (next_family(rule, family), late, (phase + 1) % step)
    return tuple([answer for k, answer in enumerate(answers) if (found >> k) & 1 == 1])


def lot_along(family, lots, word, standing):
    """The lot of the answers that come along the blocks of the letters of a word, begun in the standing."""
    found = 0
    for b in word:
        found = found | lots[b][standing]
        standing = family[b][standing]
    return found


def first_in_row(rule, machine, letter, standing, answer):
    """The first place of an answer that comes in the row of a letter that is begun in a standing."""
    step = seed_level(rule, letter)
    family = letter_maps(machine)
    lengths = [1 for _ in rule]
    firsts = letter_firsts(machine, answer)
    phase = 0
    while firsts[letter][standing] < 0 or phase > 0:
        firsts = next_firsts(rule, family, lengths, firsts)
        lengths = added_up(rule, lengths)
        family = next_family(rule, family)
        phase = (phase + 1) % step
    return firsts[letter][standing]
