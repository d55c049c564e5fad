"""Calls of several things, put into one order."""

from callorder.errors import NoThing
from callorder.finding import order_of
from callorder.judging import check_calls, gives_the_answers, has_each_once, keeps_time
from callorder.times import check_times, free_calls


def thing_of(call):
    # A deed of its word alone is of no thing.
    return call[2][1] if len(call[2]) > 1 else None


def numbers_of(calls, thing):
    return [number for number, call in enumerate(calls) if thing_of(call) == thing]


def calls_of(calls, thing):
    for call in calls:
        check_times(call)
    return numbers_of(calls, thing)


def own_calls(calls, thing):
    return [calls[number] for number in numbers_of(calls, thing)]


def check_things(kinds, calls):
    for call in calls:
        thing = thing_of(call)
        if thing not in kinds:
            raise NoThing(f"there is no thing {thing!r}")
    for thing in sorted(kinds):
        check_calls(kinds[thing], own_calls(calls, thing))


def is_order_of_all(kinds, calls, order):
    check_things(kinds, calls)
    if not has_each_once(calls, order) or not keeps_time(calls, order):
        return False
    for thing in kinds:
        own_order = [number for number in order if thing_of(calls[number]) == thing]
        if not gives_the_answers(kinds[thing], calls, own_order):
            return False
    return True


def merged(calls, orders):
    whole = []
    rests = [list(order) for order in orders if order]
    while rests:
        free = free_calls(calls, whole)
        # One rest at least begins with a free call: the one that has the call that ends first of all that are left. As
        # it keeps time, none in it is ahead of its first call, so this has begun by that first end.
        chosen = [rest for rest in rests if rest[0] in free][0]
        whole.append(chosen.pop(0))
        rests = [rest for rest in rests if rest]
    return whole


def order_of_all(kinds, calls):
    check_things(kinds, calls)
    orders = []
    for thing in sorted(kinds):
        numbers = numbers_of(calls, thing)
        found = order_of(kinds[thing], own_calls(calls, thing))
        if found[0] == "none":
            return ("none", thing, [([numbers[own] for own in pair[0]], pair[1]) for pair in found[1]])
        orders.append([numbers[own] for own in found[1]])
    return ("order", merged(calls, orders))
