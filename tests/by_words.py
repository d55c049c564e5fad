"""What the document's points say, written down once more and as plainly as can be, for the tests to compare with."""

import contextlib
import itertools
import random
import signal


def is_ahead(one, other):
    return one[1] < other[0]


def begin_of(kind):
    return () if kind == "row" else 0


def do(kind, thing, deed):
    """What the thing is behind the deed, and the answer."""
    word = deed[0]
    if kind == "row":
        if word == "put":
            return (*thing, deed[2]), None
        if not thing:
            return thing, None
        return (thing[1:] if word == "take" else thing), thing[0]
    if word == "set":
        return deed[2], None
    number = thing + (deed[2] if word == "add" else 0)
    return number, number


def is_order(kind, calls, order):
    if sorted(order) != list(range(len(calls))):
        return False
    for first, second in itertools.combinations(order, 2):
        if is_ahead(calls[second], calls[first]):
            return False
    thing = begin_of(kind)
    for number in order:
        thing, answer = do(kind, thing, calls[number][2])
        if answer != calls[number][3]:
            return False
    return True


def has_order(kind, calls):
    return any(is_order(kind, calls, order) for order in itertools.permutations(range(len(calls))))


def can_come_next(calls, gone):
    left = [number for number in range(len(calls)) if number not in gone]
    return [one for one in left if not any(is_ahead(calls[other], calls[one]) for other in left if other != one)]


def is_shown_by(kind, calls, dead_end, others):
    gone, thing = dead_end
    free = can_come_next(calls, gone)
    for number in free:
        behind, answer = do(kind, thing, calls[number][2])
        if answer == calls[number][3] and (sorted([*gone, number]), behind) not in others:
            return False
    return bool(free)


def shows_none(kind, calls, dead):
    if not dead or dead[-1] != ([], begin_of(kind)):
        return False
    return all(is_shown_by(kind, calls, dead_end, dead[:place]) for place, dead_end in enumerate(dead))


def most_that_overlap(calls):
    return max((sum(call[0] <= time <= call[1] for call in calls) for time, *rest in calls), default=0)


def history(seed, kinds, many, spread, values=None):
    """Calls that were done one after the other, each at some moment between its beginning and its end."""
    chance = random.Random(seed)
    things = {thing: begin_of(kind) for thing, kind in kinds.items()}
    words = {"row": ("put", "put", "take", "look"), "number": ("set", "add", "look")}
    calls = []
    for step in range(many):
        thing = chance.choice(sorted(kinds))
        word = chance.choice(words[kinds[thing]])
        value = () if word in ("take", "look") else (chance.choice(values) if values else step,)
        deed = (word, thing, *value)
        things[thing], answer = do(kinds[thing], things[thing], deed)
        calls.append((10 * step - chance.randrange(1, spread), 10 * step + chance.randrange(1, spread), deed, answer))
    chance.shuffle(calls)
    return calls


@contextlib.contextmanager
def within(seconds):
    """Fails where what is done there takes longer, also where it would never come to an end."""

    def too_long(*rest):
        raise AssertionError(f"not done within {seconds} seconds")

    former = signal.signal(signal.SIGALRM, too_long)
    signal.alarm(seconds)
    try:
        yield
    finally:
        signal.alarm(0)
        signal.signal(signal.SIGALRM, former)
