import copy
import itertools
import unittest

from callorder.errors import BadCall
from callorder.times import ahead, free_calls

BIG = 10**100 - 1


def call(begin, end):
    return (begin, end, ("look", "a"), None)


def free_by_the_words(calls, gone):
    left = [number for number in range(len(calls)) if number not in gone]
    return [one for one in left if not any(ahead(calls[other], calls[one]) for other in left if other != one)]


class TestAhead(unittest.TestCase):
    def test_ended_at_a_lesser_time(self):
        self.assertIs(ahead(call(1, 2), call(3, 4)), True)
        self.assertIs(ahead(call(1, 2), call(9, 12)), True)

    def test_the_other_way_round(self):
        self.assertIs(ahead(call(3, 4), call(1, 2)), False)

    def test_ended_at_the_very_time_of_the_beginning(self):
        self.assertIs(ahead(call(1, 3), call(3, 4)), False)
        self.assertIs(ahead(call(3, 4), call(1, 3)), False)

    def test_overlapping(self):
        for one, other in ((call(1, 5), call(3, 8)), (call(1, 9), call(3, 4)), (call(1, 5), call(1, 8))):
            self.assertIs(ahead(one, other), False)
            self.assertIs(ahead(other, one), False)

    def test_with_itself_and_with_one_alike(self):
        one = call(2, 3)
        self.assertIs(ahead(one, one), False)
        self.assertIs(ahead(one, call(2, 3)), False)

    def test_times_below_nought(self):
        self.assertIs(ahead(call(-9, -7), call(-6, -5)), True)
        self.assertIs(ahead(call(-6, -5), call(-9, -7)), False)
        self.assertIs(ahead(call(-2, -1), call(0, 1)), True)
        self.assertIs(ahead(call(-2, 0), call(0, 1)), False)

    def test_very_large_times(self):
        self.assertIs(ahead(call(BIG - 2, BIG - 1), call(BIG, BIG + 1)), True)
        self.assertIs(ahead(call(BIG - 2, BIG), call(BIG, BIG + 1)), False)
        self.assertIs(ahead(call(-BIG, -BIG + 1), call(-BIG + 2, BIG)), True)
        self.assertIs(ahead(call(10**130, 10**130 + 1), call(10**130 + 2, 10**131)), True)

    def test_deed_and_answer_are_not_asked(self):
        self.assertIs(ahead((1, 2, ("put", "a", 9), None), (3, 4, ("take", "b"), 1)), True)
        self.assertIs(ahead((1, 3, ("put", "a", 1), None), (3, 4, ("take", "b"), 9)), False)

    def test_call_that_does_not_begin_ahead_of_its_end(self):
        for bad in (call(3, 3), call(4, 3), call(0, -1), call(0, 0), call(10**5000, 1)):
            self.assertRaises(BadCall, ahead, bad, call(7, 8))
            self.assertRaises(BadCall, ahead, call(-8, -7), bad)
            self.assertRaises(BadCall, ahead, bad, bad)

    def test_argument_names(self):
        self.assertIs(ahead(one=call(1, 2), other=call(3, 4)), True)


class TestFreeCalls(unittest.TestCase):
    calls = [call(6, 9), call(1, 4), call(3, 7), call(5, 6), call(8, 10)]

    def test_none_gone(self):
        self.assertEqual(free_calls(self.calls, []), [1, 2])

    def test_some_gone(self):
        self.assertEqual(free_calls(self.calls, [1]), [0, 2, 3])
        self.assertEqual(free_calls(self.calls, [2]), [1])
        self.assertEqual(free_calls(self.calls, [1, 3]), [0, 2])
        self.assertEqual(free_calls(self.calls, [1, 2, 3]), [0, 4])

    def test_order_of_gone_is_not_asked(self):
        for gone in itertools.permutations([1, 2, 3]):
            self.assertEqual(free_calls(self.calls, list(gone)), [0, 4])

    def test_all_but_one_gone(self):
        for number in range(5):
            gone = [other for other in range(5) if other != number]
            self.assertEqual(free_calls(self.calls, gone), [number])

    def test_all_gone(self):
        self.assertEqual(free_calls(self.calls, [0, 1, 2, 3, 4]), [])

    def test_no_calls(self):
        self.assertEqual(free_calls([], []), [])

    def test_one_call(self):
        self.assertEqual(free_calls([call(1, 2)], []), [0])
        self.assertEqual(free_calls([call(1, 2)], [0]), [])

    def test_calls_that_are_alike(self):
        alike = [call(1, 2), call(1, 2), call(1, 2)]
        self.assertEqual(free_calls(alike, []), [0, 1, 2])
        self.assertEqual(free_calls(alike, [1]), [0, 2])
        self.assertEqual(free_calls([call(3, 4)] + alike, [1, 3]), [2])

    def test_beginning_at_the_very_time_of_an_end(self):
        self.assertEqual(free_calls([call(1, 3), call(3, 5), call(4, 6)], []), [0, 1])
        self.assertEqual(free_calls([call(3, 5), call(1, 3)], []), [0, 1])

    def test_one_behind_the_other(self):
        steps = [call(9, 10), call(6, 7), call(3, 4), call(0, 1)]
        self.assertEqual(free_calls(steps, []), [3])
        self.assertEqual(free_calls(steps, [3]), [2])
        self.assertEqual(free_calls(steps, [3, 2]), [1])
        # Where one is gone ahead of its time, the others left are still asked.
        self.assertEqual(free_calls(steps, [0]), [3])

    def test_times_below_nought_and_very_large(self):
        self.assertEqual(free_calls([call(0, 1), call(-5, -4), call(-4, BIG)], []), [1, 2])
        self.assertEqual(free_calls([call(BIG, BIG + 1), call(-BIG, BIG), call(BIG + 1, BIG + 2)], []), [0, 1])

    def test_numbers_rise_and_some_can_come_next(self):
        spans = [call(begin, end) for begin in range(4) for end in range(begin + 1, 5)]
        for calls in itertools.product(spans, repeat=3):
            for gone in ([], [0], [1], [2], [0, 2], [1, 2], [0, 1, 2]):
                told = free_calls(list(calls), gone)
                self.assertEqual(told, free_by_the_words(calls, gone))
                self.assertEqual(told, sorted(told))
                self.assertEqual(told == [], len(gone) == 3)

    def test_hundred_and_fifty_calls_and_beyond(self):
        for many in (150, 300):
            calls = [call(2 * number, 2 * number + 1) for number in range(many)]
            calls.reverse()
            self.assertEqual(free_calls(calls, []), [many - 1])
            self.assertEqual(free_calls(calls, list(range(1, many))), [0])
            self.assertEqual(free_calls([call(0, BIG)] * many, []), list(range(many)))

    def test_call_that_does_not_begin_ahead_of_its_end(self):
        for bad in (call(3, 3), call(4, 3)):
            for place in range(6):
                calls = self.calls[:place] + [bad] + self.calls[place:]
                self.assertRaises(BadCall, free_calls, calls, [])
                self.assertRaises(BadCall, free_calls, calls, [place])
                self.assertRaises(BadCall, free_calls, calls, list(range(6)))

    def test_a_list_is_told(self):
        self.assertIs(type(free_calls(self.calls, [])), list)
        self.assertIs(type(free_calls([], [])), list)

    def test_what_is_handed_in_is_not_changed(self):
        calls = list(self.calls)
        gone = [3, 1]
        before = copy.deepcopy((calls, gone))
        free_calls(calls, gone).append(99)
        self.assertEqual((calls, gone), before)
        self.assertEqual(free_calls(calls, gone), [0, 2])

    def test_argument_names(self):
        self.assertEqual(free_calls(calls=[call(1, 2)], gone=[]), [0])


if __name__ == "__main__":
    unittest.main()
