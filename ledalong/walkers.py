"""A machine that is led along a row of a world, event by event."""

from ledalong.errors import InvalidEvent, NothingToUndo, NotUsable
from ledalong.helper import need, rank_in
from ledalong.walkerevents import first_moment, goals_left, is_log, moment_behind, reason_against
from ledalong.worldmaps import need_growing
from ledalong.worlds import stands_in


class Walker:
    """A live walker: a machine, led along a row, of which nobody knows in which standing it woke."""

    MOST = 40

    def __init__(self, rule, machine):
        need_growing(rule, machine)
        self._begin = ("walker", rule, machine)
        self._rule = rule
        self._events = ()
        # The moment ahead of the first event, and that behind each one.
        self._moments = (first_moment(rule, machine),)
        self._calls = 0
        self._refused = 0

    @property
    def rule_now(self):
        """The rule."""
        return self._rule

    @property
    def machine_now(self):
        """The machine that is led now."""
        return self._moments[-1].machine

    @property
    def gone_now(self):
        """How many letters it has gone in all."""
        return self._moments[-1].gone

    @property
    def trail_now(self):
        """The last letters that it has gone."""
        return self._moments[-1].trail

    @property
    def names_now(self):
        """The set of the names of moments."""
        return tuple(sorted(list(self._moments[-1].names)))

    @property
    def wakings_now(self):
        """The set of the wakings that are left."""
        return self._moments[-1].wakings

    @property
    def possible_now(self):
        """The set of the standings to which these have been led."""
        return goals_left(self._moments[-1])

    @property
    def told_now(self):
        """The standing to which these have been led, if there is one alone, or None."""
        goals = goals_left(self._moments[-1])
        return goals[0] if len(goals) == 1 else None

    @property
    def rank_now(self):
        """To how many standings all wakings have been led."""
        return rank_in(self._moments[-1].leads)

    @property
    def settled_now(self):
        """Whether these are as many as the memory tells."""
        moment = self._moments[-1]
        return rank_in(moment.leads) == moment.memory

    @property
    def classes_now(self):
        """The sets of the wakings that are left and have been led to one standing, by their firsts."""
        moment = self._moments[-1]
        return tuple(sorted([tuple([waking for waking in moment.wakings if moment.leads[waking] == goal])
                             for goal in goals_left(moment)]))

    def happen(self, event):
        """Let an event happen; the standings that are possible then."""
        return self._called(event)

    def go(self, letter):
        """Go one letter."""
        return self._called(("go", letter))

    def jump(self, letter, level):
        """Go the letters of a block."""
        return self._called(("jump", letter, level))

    def hear(self, answers):
        """Hear what was answered to the last letters."""
        return self._called(("hear", answers))

    def swap(self, machine):
        """Lead another machine from now on."""
        return self._called(("swap", machine))

    def mark(self, name):
        """Give this moment a name."""
        return self._called(("mark", name))

    def undo(self):
        """Take back the last event; this is returned."""
        self._count_call()
        if len(self._events) == 0:
            raise NothingToUndo(0)
        event = self._events[-1]
        self._events = self._events[:-1]
        self._moments = self._moments[:-1]
        self._count_fine()
        return event

    def do_all(self, *events, keep=False):
        """Let events happen in order, how many is returned; if one is refused all are taken back, or kept."""
        self._count_call()
        if not isinstance(keep, bool):
            raise NotUsable("keep", -1)
        before = self._events, self._moments
        for event in events:
            reason = self.barred(event)
            if reason is not None:
                if not keep:
                    self._events, self._moments = before
                raise InvalidEvent(event, reason)
            self._add(event)
        self._count_fine()
        return len(events)

    def barred(self, event):
        """The reason for which any value is refused, or None."""
        return reason_against(self._rule, self._moments[-1], self.MOST - len(self._events), event)

    def tried(self, *events):
        """The standings that are possible, and the wakings that are left, as behind events; nothing changes."""
        moment = self._moments[-1]
        room = self.MOST - len(self._events)
        for at, event in enumerate(events):
            reason = reason_against(self._rule, moment, room - at, event)
            if reason is not None:
                raise InvalidEvent(event, reason)
            moment = moment_behind(self._rule, moment, event)
        return goals_left(moment), moment.wakings

    def said(self, waking):
        """The answers of a waking that is left to the letters of the span."""
        need(self._is_left(waking), "waking")
        return self._moments[-1].replies[waking]

    def coming(self):
        """The set of the letters that may be gone now, the number of events aside."""
        trail = self._moments[-1].trail
        return tuple([a for a in range(len(self._rule)) if stands_in(self._rule, (*trail, a))])

    def since(self, name):
        """The events behind the moment of this name."""
        need(name in self, "name")
        return self._events[self._events.index(("mark", name)) + 1:]

    def log(self):
        """The walker as it was made, and its events."""
        return (self._begin, *self._events)

    def counts(self):
        """How many calls were made that might change it, and how many of these raised an error."""
        return self._calls, self._refused

    def _called(self, event):
        """Let an event of a call happen."""
        self._count_call()
        self._let(event)
        self._count_fine()
        return self.possible_now

    def _count_call(self):
        """Count a call, as one that raises."""
        self._calls = self._calls + 1
        self._refused = self._refused + 1

    def _count_fine(self):
        """Count the call that comes to its end as one that does not raise."""
        self._refused = self._refused - 1

    def _let(self, event):
        """Let an event happen, or refuse it."""
        reason = self.barred(event)
        if reason is not None:
            raise InvalidEvent(event, reason)
        self._add(event)

    def _add(self, event):
        """Add an event that is not refused."""
        moment = moment_behind(self._rule, self._moments[-1], event)
        self._events = (*self._events, event)
        self._moments = (*self._moments, moment)

    def _is_left(self, thing):
        """Whether any value is a waking that is left."""
        return isinstance(thing, int) and not isinstance(thing, bool) and thing in self._moments[-1].wakings

    def __iadd__(self, other):
        self._called(other)
        return self

    def __getitem__(self, at):
        need(self._is_left(at), "waking")
        return self._moments[-1].leads[at]

    def __contains__(self, x):
        return isinstance(x, str) and x in self._moments[-1].names

    def __len__(self):
        return len(self._events)

    def __iter__(self):
        return iter(self._events)

    def __eq__(self, other):
        return isinstance(other, Walker) and self._begin == other._begin and self._events == other._events


def replayed(log):
    """A new walker behind the events of a log."""
    need(is_log(log), "log")
    _, rule, machine = log[0]
    walker = Walker(rule, machine)
    for event in log[1:]:
        walker._let(event)
    return walker
