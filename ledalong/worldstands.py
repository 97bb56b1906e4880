"""Which machine may replace which one along a rule, and words that show that it may not.

A state is a pair of a standing of one and an integer m, as the document tells. All states, ascending, are a
list; a row of states, and where a letter leads each of them, are told by their indexes in it.
"""

from ledalong.families import next_family
from ledalong.forgetting import settled_in
from ledalong.helper import joined, need
from ledalong.kinds import fits, is_number
from ledalong.worldmaps import NEAR, ends_of
from ledalong.worlds import is_growing, words_in


def may_stand(rule, one, other, *, letters=0):
    """Whether one may replace other along the rule after so many letters."""
    need_two(rule, one, other)
    need(is_number(letters), "letters")
    return stands_for(rule, one, other, letters)


def failing_word(rule, one, other, *, letters=0):
    """The least waking and words that show that one may not replace other after so many letters, or None."""
    need_two(rule, one, other)
    need(is_number(letters), "letters")
    return failing_in(rule, one, other, letters)


def least_letters(rule, one, other):
    """The least number of letters after which one may replace other along the rule, or None."""
    need_two(rule, one, other)
    # After more letters no more is asked for, and after the delay of one always the same.
    most = settled_in(rule, one)[0]
    if not stands_for(rule, one, other, most):
        return None
    least = 0
    while least < most:
        middle = (least + most) // 2
        if stands_for(rule, one, other, middle):
            most = middle
        else:
            least = middle + 1
    return least


def need_two(rule, one, other):
    """Refuse what is no rule that grows, no two machines that fit it."""
    need(is_growing(rule), "rule")
    need(fits(rule, one), "one")
    need(fits(rule, other), "other")


def states_of(one, other, letters):
    """All states, ascending."""
    return [(s, m) for s in range(len(one)) for m in range(-letters, 1 << len(other))]


def all_of(machine):
    """The sum of the 1 << t over all standings."""
    return (1 << len(machine)) - 1


def led_state(one, other, state, letter):
    """The state to which a letter leads a state."""
    s, m = state
    goal, answer = one[s][letter]
    if m < -1:
        return goal, m + 1
    if m == -1:
        return goal, all_of(other)
    late = 0
    for t, standing in enumerate(other):
        if (m >> t) & 1 == 1 and standing[letter][1] == answer:
            late = late | (1 << standing[letter][0])
    return goal, late


def begin_row(one, other, letters):
    """The row of the begins of all standings of one."""
    states = states_of(one, other, letters)
    m = all_of(other) if letters == 0 else -letters
    return tuple([states.index((s, m)) for s in range(len(one))])


def letter_leads(one, other, letters):
    """For each letter where it leads all states."""
    states = states_of(one, other, letters)
    indexes = {state: k for k, state in enumerate(states)}
    return tuple([tuple([indexes[led_state(one, other, state, a)] for state in states]) for a in range(len(one[0]))])


def first_stand(one, other, letters):
    """The stand family of the level 0, states being told by their indexes."""
    leads = letter_leads(one, other, letters)
    begin = begin_row(one, other, letters)
    return leads, tuple([tuple(sorted({begin, joined(begin, lead)})) for lead in leads])


def next_stand(rule, family):
    """The stand family of the level behind that of a family."""
    leads, ends = family
    return next_family(rule, leads), tuple([ends_of(leads, ends, block) for block in rule])


def stands_for(rule, one, other, letters):
    """Whether one may replace other after so many letters.

    A word that shows that it may not stands in some block, and shows it as well with all letters behind it to
    the block's end.
    """
    none = empty_states(one, other, letters)
    family = first_stand(one, other, letters)
    families = {}
    while family not in families:
        if any([any([none[k] for k in row]) for rows in family[1] for row in rows]):
            return False
        families[family] = True
        family = next_stand(rule, family)
    return True


def empty_states(one, other, letters):
    """For each state whether no standing of other is left."""
    return [m == 0 for _, m in states_of(one, other, letters)]


def failing_in(rule, one, other, letters):
    """What failing_word tells of two machines that fit a rule that grows."""
    if stands_for(rule, one, other, letters):
        return None
    most = letters + NEAR
    told = failing_within(rule, one, other, letters, most)
    while told is None:
        most = 2 * most
        told = failing_within(rule, one, other, letters, most)
    return told


def failing_within(rule, one, other, letters, most):
    """What failing_word tells, if the word of both has at most so many letters, or None."""
    none = empty_states(one, other, letters)
    leads = letter_leads(one, other, letters)
    words = words_in(rule, most)
    rows = [begin_row(one, other, letters) for _ in words]
    for length in range(most + 1):
        for word, row in zip(words, rows):
            wakings = [s for s, k in enumerate(row) if none[k]]
            if len(wakings) > 0:
                return wakings[0], word[:letters], word[letters:length]
        if length < most:
            rows = [joined(row, leads[word[length]]) for word, row in zip(words, rows)]
    return None
