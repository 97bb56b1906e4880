"""Events of a walker: what is one by form, for which reason one is refused, and what it leads to."""

from ledalong.blocks import length_rows
from ledalong.faranswers import families_to
from ledalong.forgetting import memory_in
from ledalong.helper import joined, led, spread, word_map
from ledalong.kinds import fits, is_full, is_long, is_machine, is_number
from ledalong.worlds import is_growing, stands_in
from ledalong.worldstands import stands_for

# So many letters of what has been gone are known.
TRAIL = 40
MOST_LEVEL = 200
LONGEST_NAME = 8


class Moment:
    """What there is between two events; it never changes.

    For each waking of the machine that is led now, left or not, leads tells the standing to which it has been
    led, and replies its answers to the letters of the span.
    """

    def __init__(self, machine, memory, gone, trail, leads, replies, wakings, names):
        self.machine = machine
        self.memory = memory
        self.gone = gone
        self.trail = trail
        self.leads = leads
        self.replies = replies
        self.wakings = wakings
        self.names = names


def is_event(thing):
    """Whether any value is an event by form."""
    if is_long(thing, 2):
        return is_event_of_two(thing[0], thing[1])
    return is_long(thing, 3) and thing[0] == "jump" and is_number(thing[1]) and is_number(thing[2])


def is_log(thing):
    """Whether any value is a log."""
    if not is_full(thing) or not is_long(thing[0], 3):
        return False
    word, rule, machine = thing[0]
    return word == "walker" and is_growing(rule) and fits(rule, machine) and all([is_event(one) for one in thing[1:]])


def is_event_of_two(word, thing):
    """Whether any two values are an event by form, the first one telling its kind."""
    if word == "go":
        return is_number(thing)
    if word == "hear":
        return is_full(thing) and all([is_number(answer) for answer in thing])
    if word == "swap":
        return is_machine(thing)
    return word == "mark" and is_name(thing)


def is_name(thing):
    """Whether any value is a string of one to eight lowercase letters."""
    return isinstance(thing, str) and 1 <= len(thing) <= LONGEST_NAME and all(["a" <= sign <= "z" for sign in thing])


def first_moment(rule, machine):
    """The moment at which a walker is made."""
    return woken_at(rule, machine, 0, (), ())


def woken_at(rule, machine, gone, trail, names):
    """The moment at which a machine wakes, after so many letters."""
    wakings = tuple(range(len(machine)))
    replies = tuple([() for _ in machine])
    return Moment(machine, memory_in(rule, machine), gone, trail, wakings, replies, wakings, names)


def goals_left(moment):
    """The set of the standings to which the wakings that are left have been led."""
    return tuple(sorted({moment.leads[waking] for waking in moment.wakings}))


def reason_against(rule, moment, room, event):
    """For which reason any value is refused at a moment, there being room for so many events; or None."""
    if not is_event(event):
        return "shape"
    if room < 1:
        return "full"
    word = event[0]
    if word == "go" or word == "jump":
        return reason_against_way(rule, moment, event)
    if word == "hear":
        return reason_against_hearing(moment, event[1])
    if word == "swap":
        return reason_against_machine(rule, moment, event[1])
    return "twice" if event[1] in moment.names else None


def reason_against_way(rule, moment, event):
    """For which reason letters are refused, or None."""
    letter = event[1]
    if letter >= len(rule):
        return "letter"
    level = level_of_way(event)
    if level > MOST_LEVEL:
        return "level"
    return None if stands_in(rule, moment.trail + head_of_block(rule, letter, level)) else "word"


def level_of_way(event):
    """The level of the block whose letters an event goes; a letter is a block of level 0."""
    return event[2] if event[0] == "jump" else 0


def reason_against_hearing(moment, answers):
    """For which reason answers are refused, or None."""
    if len(answers) > len(moment.replies[0]):
        return "long"
    return None if len(wakings_heard(moment, answers)) > 0 else "answers"


def reason_against_machine(rule, moment, machine):
    """For which reason another machine is refused, or None."""
    if not fits(rule, machine):
        return "fits"
    return None if stands_for(rule, machine, moment.machine, 0) else "unlike"


def wakings_heard(moment, answers):
    """The set of the wakings, of those that are left, whose last answers are these."""
    many = len(answers)
    return tuple([waking for waking in moment.wakings if moment.replies[waking][-many:] == answers])


def head_of_block(rule, letter, level):
    """The first letters of a block, all of them if they are not more than the trail has."""
    word = (letter,)
    for _ in range(level):
        word = spread(rule, word)[:TRAIL]
    return word


def moment_behind(rule, moment, event):
    """The moment behind an event that is not refused."""
    word = event[0]
    if word == "go" or word == "jump":
        return moment_gone(rule, moment, event[1], level_of_way(event))
    if word == "swap":
        return woken_at(rule, event[1], moment.gone, moment.trail, moment.names)
    wakings = wakings_heard(moment, event[1]) if word == "hear" else moment.wakings
    names = (*moment.names, event[1]) if word == "mark" else moment.names
    return Moment(moment.machine, moment.memory, moment.gone, moment.trail, moment.leads, moment.replies,
                  wakings, names)


def moment_gone(rule, moment, letter, level):
    """The moment behind the letters of a block."""
    front, tail = tail_of_block(rule, moment.machine, letter, level)
    ways = [led(moment.machine, front[goal], tail) for goal in moment.leads]
    replies = tuple([(reply + way[1])[-TRAIL:] for reply, way in zip(moment.replies, ways)])
    gone = moment.gone + length_rows(rule, level)[level][letter]
    trail = (moment.trail + tail)[-TRAIL:]
    leads = tuple([way[0] for way in ways])
    return Moment(moment.machine, moment.memory, gone, trail, leads, replies, moment.wakings, moment.names)


def tail_of_block(rule, machine, letter, level):
    """The map of a block without its last letters, and these: all if they are not more than the trail has."""
    front = tuple(range(len(machine)))
    tail = (letter,)
    families = families_to(rule, machine, level)
    for below in range(level - 1, -1, -1):
        word = spread(rule, tail)
        ahead = word[:-TRAIL]
        if len(ahead) > 0:
            front = joined(front, word_map(families[below], ahead))
        tail = word[-TRAIL:]
    return front, tail
