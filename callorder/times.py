"""The times of calls: which is ahead of which, and which can come next."""

from callorder.errors import BadCall


def check_times(call):
    # The times are left out of the words: Python refuses to write very long numbers.
    if call[0] >= call[1]:
        raise BadCall("a call begins no sooner than it ends")


def ahead(one, other):
    check_times(one)
    check_times(other)
    return one[1] < other[0]


def free_calls(calls, gone):
    for call in calls:
        check_times(call)
    left = [number for number in range(len(calls)) if number not in gone]
    if not left:
        return []
    # No call is ahead of itself, so the first end of all that are left does for the others of each.
    first_end = min([calls[number][1] for number in left])
    return [number for number in left if calls[number][0] <= first_end]
