"""How many words a world has."""

from ledalong.helper import need
from ledalong.kinds import is_number
from ledalong.worlds import is_growing, words_in


def how_many(rule, length):
    """How many words of the rule have so many letters."""
    need(is_growing(rule), "rule")
    need(is_number(length), "length")
    return len(words_in(rule, length))


def branching(rule, length):
    """The set of the words with so many letters behind which two letters or more may come."""
    need(is_growing(rule), "rule")
    need(is_number(length), "length")
    heads = [word[:length] for word in words_in(rule, length + 1)]
    return tuple(sorted({head for head, other in zip(heads, heads[1:]) if head == other}))
