"""An order of calls of one thing, or the dead ends that show that there is none."""

from callorder.judging import check_calls
from callorder.kinds import do_deed, start
from callorder.times import free_calls


def fitting_call(seeing, value):
    first_end = min([call[1] for call in seeing])
    fitting = [call for call in seeing if call[0] <= first_end and call[3] == value]
    # Looks change nothing, so they come first; of several takes the one that ends first holds up the fewest others.
    return min(fitting, key=lambda call: (call[2][0] == "take", call[1]), default=None)


# The values in a row come out one after the other, whatever is put behind them. So where the takes and looks that are
# left, by themselves, can't see these values in this order, no order of all calls goes on from here. Without asking
# that, puts that overlap would be tried in each order of theirs.
def can_come_out(row, calls, order):
    left = [calls[number] for number in range(len(calls)) if number not in order]
    seeing = [call for call in left if call[2][0] != "put"]
    later = [call[2][2] for call in left if call[2][0] == "put"]
    for place, value in enumerate(row):
        while seeing:
            call = fitting_call(seeing, value)
            if call is None:
                return False
            seeing.remove(call)
            if call[2][0] == "take":
                break
        if value not in row[place + 1 :] and value not in later and any([other[3] == value for other in seeing]):
            return False
    return True


# Each way is a pair: the order so far, and what the thing is then.
def ways_on(kind, calls, order, thing):
    ways = []
    for number in free_calls(calls, order):
        done = do_deed(kind, thing, calls[number][2])
        if done[1] == calls[number][3]:
            ways.append((order + [number], done[0]))
    return ways


def search_order(kind, calls):
    waiting = [([], start(kind))]
    seen = {}
    while waiting:
        way = waiting.pop()
        order = way[0]
        thing = way[1]
        if len(order) == len(calls):
            return order
        key = (tuple(sorted(order)), thing)
        if key in seen:
            continue
        seen[key] = True
        if kind != "row" or can_come_out(thing, calls, order):
            waiting.extend(ways_on(kind, calls, order, thing))
    return None


def things_behind(kind, call, things):
    behind = {}
    for thing in things:
        done = do_deed(kind, thing, call[2])
        if done[1] == call[3]:
            behind[done[0]] = True
    return behind


# A level has, for each choice of calls that can be gone, all that the thing can be then. In the next level one more
# call is gone.
def next_level(kind, calls, level):
    following = {}
    for gone in level:
        for number in free_calls(calls, gone):
            things = things_behind(kind, calls[number], level[gone])
            if things:
                following.setdefault(tuple(sorted(gone + (number,))), {}).update(things)
    return following


# Where there is no order, all that the calls can lead to is a dead end, shown by those with one more call gone.
def dead_ends(kind, calls):
    levels = [{(): {start(kind): True}}]
    while levels[-1]:
        levels.append(next_level(kind, calls, levels[-1]))
    dead = []
    for level in reversed(levels):
        for gone in level:
            dead.extend([(list(gone), thing) for thing in level[gone]])
    return dead


def order_of(kind, calls):
    check_calls(kind, calls)
    order = search_order(kind, calls)
    if order is None:
        return ("none", dead_ends(kind, calls))
    return ("order", order)
