"""Whether an order is one, and whether dead ends show that there is none."""

from callorder.kinds import answers, check_deed, check_kind, do_deed, is_whole_number, start
from callorder.times import ahead, check_times, free_calls


def check_calls(kind, calls):
    check_kind(kind)
    for call in calls:
        check_times(call)
        check_deed(kind, call[2])


def has_each_once(calls, order):
    return sorted(order) == list(range(len(calls)))


def keeps_time(calls, order):
    for place, number in enumerate(order):
        if any([ahead(calls[number], calls[former]) for former in order[:place]]):
            return False
    return True


def gives_the_answers(kind, calls, order):
    return answers(kind, [calls[number][2] for number in order]) == [calls[number][3] for number in order]


def is_order(kind, calls, order):
    check_calls(kind, calls)
    return has_each_once(calls, order) and keeps_time(calls, order) and gives_the_answers(kind, calls, order)


def can_be(kind, thing):
    if kind == "row":
        return isinstance(thing, tuple) and all([is_whole_number(value) for value in thing])
    return is_whole_number(thing)


def are_numbers_of(calls, gone):
    return all([0 <= number < len(calls) for number in gone])


# `shown` has the dead ends that are shown already, each as a pair of a tuple of numbers and what the thing is.
def is_shown(kind, calls, gone, thing, shown):
    free = free_calls(calls, gone)
    for number in free:
        done = do_deed(kind, thing, calls[number][2])
        behind = (tuple(sorted(gone + [number])), done[0])
        if done[1] == calls[number][3] and behind not in shown:
            return False
    return free != []


def shows_none(kind, calls, dead):
    check_calls(kind, calls)
    shown = {}
    for pair in dead:
        gone = pair[0]
        thing = pair[1]
        if not are_numbers_of(calls, gone) or not can_be(kind, thing):
            return False
        if not is_shown(kind, calls, gone, thing, shown):
            return False
        shown[(tuple(gone), thing)] = True
    return dead != [] and dead[-1] == ([], start(kind))
