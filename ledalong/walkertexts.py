"""Events and logs written as lines."""

from ledalong.helper import need
from ledalong.texts import machine_line, rule_line
from ledalong.walkerevents import is_event, is_log


def event_line(event):
    """The line of an event by form."""
    need(is_event(event), "event")
    return line_of_event(event)


def log_lines(log):
    """The list of the lines of the rule, of the machine, and of the events."""
    need(is_log(log), "log")
    _, rule, machine = log[0]
    return [rule_line(rule), machine_line(machine), *[line_of_event(event) for event in log[1:]]]


def line_of_event(event):
    """The line of what is an event by form."""
    word = event[0]
    if word == "swap":
        # A machine's line, but for its first word.
        return " ".join([word, *machine_line(event[1]).split(" ")[1:]])
    parts = event[1] if word == "hear" else event[1:]
    return " ".join([word, *[str(part) for part in parts]])
