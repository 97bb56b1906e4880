"""Papers on the memory of a machine along a rule."""

from ledalong.families import families_in
from ledalong.forgetting import settling_in
from ledalong.worldmaps import need_growing


def forget_paper(rule, machine):
    """A paper that lets_forget accepts."""
    need_growing(rule, machine)
    # From the start of the families on, blocks settle the machine, and so do two of them.
    return "rank", families_in(rule, machine)[1], settling_in(rule, machine)
