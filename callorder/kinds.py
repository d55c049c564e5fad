"""The two kinds of things, their deeds, and what these are answered with."""

from callorder.errors import BadCall, NoKind

STARTS = {"row": (), "number": 0}

# How many parts a deed has: the word, the thing, and for some words a value.
PARTS = {
    ("row", "put"): 3,
    ("row", "take"): 2,
    ("row", "look"): 2,
    ("number", "set"): 3,
    ("number", "add"): 3,
    ("number", "look"): 2,
}


def check_kind(kind):
    if kind not in STARTS:
        raise NoKind(f"there is no kind {kind!r}")


def start(kind):
    check_kind(kind)
    return STARTS[kind]


def is_whole_number(value):
    # Python counts True and False among its whole numbers, the document doesn't.
    return isinstance(value, int) and not isinstance(value, bool)


def has_parts(deed, parts):
    if len(deed) != parts or not isinstance(deed[1], str):
        return False
    return parts == 2 or is_whole_number(deed[2])


def can_do(kind, deed):
    key = (kind, deed[0])
    return key in PARTS and has_parts(deed, PARTS[key])


def some_kind_can_do(deed):
    return any([can_do(kind, deed) for kind in STARTS])


def check_deed(kind, deed):
    check_kind(kind)
    if not can_do(kind, deed):
        word = deed[0]
        # The other parts are left out of the words: Python refuses to write very long numbers.
        raise BadCall(f"a {kind} has no deed {word!r} with these parts")


def do_row(row, deed):
    if deed[0] == "put":
        return (row + (deed[2],), None)
    first = row[0] if row else None
    if deed[0] == "take":
        return (row[1:], first)
    return (row, first)


def do_number(number, deed):
    if deed[0] == "set":
        return (deed[2], None)
    if deed[0] == "add":
        return (number + deed[2], number + deed[2])
    return (number, number)


# A pair: what the thing is behind the deed, and the answer. The deed is one that check_deed lets through.
def do_deed(kind, thing, deed):
    if kind == "row":
        return do_row(thing, deed)
    return do_number(thing, deed)


def answers(kind, deeds):
    thing = start(kind)
    given = []
    for deed in deeds:
        check_deed(kind, deed)
        done = do_deed(kind, thing, deed)
        thing = done[0]
        given.append(done[1])
    return given
