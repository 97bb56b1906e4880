"""A walker that is led and asked by rows."""

from ledalong.errors import InvalidRow, InvalidText
from ledalong.readings import number_in
from ledalong.texts import commas, machine_line, rule_line
from ledalong.walkerreadings import read_event
from ledalong.walkers import Walker
from ledalong.walkertexts import event_line


def spaced(things):
    """Numbers or names with single spaces between, - for none."""
    return " ".join([str(thing) for thing in things]) if len(things) > 0 else "-"


def lines_of(events):
    """The lines of events, - for none."""
    return " / ".join([event_line(event) for event in events]) if len(events) > 0 else "-"


def tell_possible(walker):
    """The standings to which the wakings that are left have been led."""
    return spaced(walker.possible_now)


def tell_wakings(walker):
    """The wakings that are left."""
    return spaced(walker.wakings_now)


def tell_trail(walker):
    """The last letters."""
    return spaced(walker.trail_now)


def tell_names(walker):
    """The names of moments."""
    return spaced(walker.names_now)


def tell_coming(walker):
    """The letters that may be gone now."""
    return spaced(walker.coming())


def tell_told(walker):
    """The standing that is told, or -."""
    return "-" if walker.told_now is None else str(walker.told_now)


def tell_rank(walker):
    """To how many standings all wakings have been led."""
    return str(walker.rank_now)


def tell_gone(walker):
    """How many letters have been gone."""
    return str(walker.gone_now)


def tell_settled(walker):
    """Whether the machine is settled."""
    return "yes" if walker.settled_now else "no"


def tell_classes(walker):
    """The sets of wakings that have been led to one standing."""
    return " ".join([commas(wakings) for wakings in walker.classes_now])


def tell_rule(walker):
    """The line of the rule."""
    return rule_line(walker.rule_now)


def tell_machine(walker):
    """The line of the machine that is led now."""
    return machine_line(walker.machine_now)


def tell_undo(walker):
    """The line of the last event, which is taken back."""
    return event_line(walker.undo())


def tell_log(walker):
    """The lines of all events."""
    return lines_of(walker.log()[1:])


TELLERS = {
    "possible": tell_possible, "wakings": tell_wakings, "trail": tell_trail, "names": tell_names,
    "coming": tell_coming, "told": tell_told, "rank": tell_rank, "gone": tell_gone, "settled": tell_settled,
    "classes": tell_classes, "rule": tell_rule, "machine": tell_machine, "undo": tell_undo, "log": tell_log,
}


class Desk:
    """A walker that answers to rows."""

    def __init__(self, rule, machine):
        self._walker = Walker(rule, machine)

    def say(self, row):
        """The answer to any row."""
        if not isinstance(row, str):
            raise InvalidRow(row)
        if row in TELLERS:
            tell = TELLERS[row]
            return tell(self._walker)
        fields = row.split(" ")
        if fields[0] == "bars":
            reason = self._walker.barred(event_in(row, " ".join(fields[1:])))
            return "-" if reason is None else reason
        if len(fields) == 2 and fields[0] == "said" and fields[1] != "":
            return spaced(self._walker.said(number_in(fields[1])))
        if len(fields) == 2 and fields[0] == "since" and fields[1] != "":
            return lines_of(self._walker.since(fields[1]))
        return spaced(self._walker.happen(event_in(row, row)))


def event_in(row, text):
    """The event that a text, of a row, writes."""
    try:
        return read_event(text)
    except InvalidText:
        raise InvalidRow(row) from None
