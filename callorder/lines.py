"""Calls written as lines, and lines read to calls."""

from callorder.errors import BadCall, NoLine
from callorder.kinds import some_kind_can_do
from callorder.times import check_times

FIGURES = "0123456789"
LETTERS = "abcdefghijklmnopqrstuvwxyz"


def has_only(text, signs):
    return text != "" and all([sign in signs for sign in text])


def is_written_thing(text):
    return has_only(text, LETTERS)


# Python's own `int` lets more through: blanks, `+`, `_`, noughts ahead, and the figures of other scripts.
def is_written_number(text):
    figures = text[1:] if text.startswith("-") else text
    return has_only(figures, FIGURES) and (figures[0] != "0" or text == "0")


def read_number(text):
    if not is_written_number(text):
        raise NoLine(f"{text!r} is no number")
    return int(text)


def read_deed(parts):
    deed = (parts[0], parts[1]) + tuple([read_number(part) for part in parts[2:]])
    if not is_written_thing(parts[1]) or not some_kind_can_do(deed):
        raise NoLine(f"{parts!r} are no parts of a deed")
    return deed


def read_answer(text):
    return None if text == "none" else read_number(text)


def read_line(line):
    parts = line.split(" ")
    if len(parts) < 6 or parts[-2] != "gives":
        raise NoLine(f"{line!r} has other parts than a call")
    begin = read_number(parts[0])
    end = read_number(parts[1])
    if begin >= end:
        raise NoLine(f"{line!r} has no end that is greater than its beginning")
    return (begin, end, read_deed(parts[2:-2]), read_answer(parts[-1]))


def read(lines):
    return [read_line(line) for line in lines]


def shown_call(call):
    check_times(call)
    deed = call[2]
    if not some_kind_can_do(deed):
        raise BadCall("a call has a deed that no kind can do")
    thing = deed[1]
    if not is_written_thing(thing):
        raise NoLine(f"the thing {thing!r} can't stand in a line")
    answer = "none" if call[3] is None else str(call[3])
    return " ".join([str(part) for part in call[:2] + deed] + ["gives", answer])


def shown(calls):
    return [shown_call(call) for call in calls]
