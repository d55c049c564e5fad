import copy
import itertools
import unittest

import by_words
from callorder.errors import BadCall, NoKind
from callorder.finding import order_of
from callorder.judging import is_order, shows_none

BIG = 10**100 - 1

# Deeds and answers from which small lists of calls are made, and times of which some overlap and some don't.
DONE = {
    "row": [
        (("put", "a", 1), None),
        (("put", "a", 2), None),
        (("take", "a"), 1),
        (("take", "a"), 2),
        (("take", "a"), None),
        (("look", "a"), 1),
        (("look", "a"), None),
    ],
    "number": [
        (("set", "a", 1), None),
        (("set", "a", 0), None),
        (("add", "a", 1), 1),
        (("add", "a", 1), 2),
        (("add", "a", 0), 1),
        (("look", "a"), 0),
        (("look", "a"), 1),
    ],
}
TIMES = [(0, 1), (0, 5), (2, 3), (3, 5)]


def overlapping(deeds_and_answers):
    return [(0, 100, deed, answer) for deed, answer in deeds_and_answers]


def one_after_the_other(deeds_and_answers, begin=0):
    steps = enumerate(deeds_and_answers)
    return [(begin + 10 * step, begin + 10 * step + 5, deed, answer) for step, (deed, answer) in steps]


class OrderCase(unittest.TestCase):
    def assert_order(self, kind, calls):
        found = order_of(kind, calls)
        self.assertIs(type(found), tuple)
        self.assertEqual(len(found), 2)
        self.assertEqual(found[0], "order", calls)
        self.assertIs(type(found[1]), list)
        self.assertTrue(by_words.is_order(kind, calls, found[1]), (calls, found))
        self.assertIs(is_order(kind, calls, found[1]), True)
        return found[1]

    def assert_none(self, kind, calls):
        found = order_of(kind, calls)
        self.assertIs(type(found), tuple)
        self.assertEqual(len(found), 2)
        self.assertEqual(found[0], "none", calls)
        self.assertIs(type(found[1]), list)
        self.assertIs(shows_none(kind, calls, found[1]), True)
        for dead_end in found[1]:
            self.assertIs(type(dead_end), tuple)
            self.assertIs(type(dead_end[0]), list)
            self.assertIs(type(dead_end[1]), tuple if kind == "row" else int)
        return found[1]


class TestOrderOf(OrderCase):
    def test_an_order_of_a_row(self):
        calls = [
            (6, 9, ("look", "a"), 5),
            (1, 4, ("put", "a", 5), None),
            (3, 8, ("take", "a"), None),
            (10, 12, ("take", "a"), 5),
        ]
        self.assertEqual(self.assert_order("row", calls), [2, 1, 0, 3])

    def test_an_order_of_a_number(self):
        calls = [
            (1, 9, ("set", "n", 5), None),
            (2, 6, ("add", "n", -2), 3),
            (4, 8, ("look", "n"), 0),
            (10, 12, ("look", "n"), 3),
        ]
        self.assertEqual(self.assert_order("number", calls), [2, 0, 1, 3])

    def test_two_puts_that_overlap_taken_in_the_other_order(self):
        puts = [(1, 4, ("put", "a", 5), None), (2, 6, ("put", "a", 6), None)]
        takes = [(7, 8, ("take", "a"), 6), (9, 10, ("take", "a"), 5)]
        self.assertEqual(self.assert_order("row", puts + takes), [1, 0, 2, 3])
        self.assertEqual(self.assert_order("row", takes + puts), [3, 2, 0, 1])

    def test_two_puts_that_do_not_overlap_taken_in_the_other_order(self):
        puts = [(1, 4, ("put", "a", 5), None), (5, 6, ("put", "a", 6), None)]
        takes = [(7, 8, ("take", "a"), 6), (9, 10, ("take", "a"), 5)]
        dead = self.assert_none("row", puts + takes)
        self.assertEqual(dead, [([0, 1], (5, 6)), ([0], (5,)), ([], ())])

    def test_one_begins_when_the_other_ends(self):
        calls = [(1, 4, ("put", "a", 5), None), (4, 6, ("look", "a"), None)]
        self.assertEqual(self.assert_order("row", calls), [1, 0])
        calls = [(1, 4, ("put", "a", 5), None), (5, 6, ("look", "a"), None)]
        self.assertEqual(self.assert_none("row", calls), [([0], (5,)), ([], ())])

    def test_no_order_of_a_row(self):
        calls = [(1, 4, ("put", "a", 5), None), (2, 6, ("put", "a", 6), None), (7, 9, ("take", "a"), 7)]
        dead = self.assert_none("row", calls)
        told = sorted(dead, key=repr)
        self.assertEqual(told, [([0, 1], (5, 6)), ([0, 1], (6, 5)), ([0], (5,)), ([1], (6,)), ([], ())])
        self.assertEqual(dead[-1], ([], ()))

    def test_no_order_of_a_number(self):
        calls = [(1, 5, ("set", "n", 4), None), (2, 6, ("add", "n", 1), 5), (7, 9, ("look", "n"), 4)]
        self.assertEqual(self.assert_none("number", calls), [([0, 1], 5), ([0], 4), ([], 0)])

    def test_one_call(self):
        self.assert_order("row", [(1, 2, ("take", "a"), None)])
        self.assertEqual(self.assert_none("row", [(1, 2, ("take", "a"), 0)]), [([], ())])
        self.assertEqual(self.assert_none("row", [(1, 2, ("put", "a", 1), 1)]), [([], ())])
        self.assert_order("number", [(1, 2, ("look", "n"), 0)])
        self.assertEqual(self.assert_none("number", [(1, 2, ("look", "n"), None)]), [([], 0)])
        self.assertEqual(self.assert_none("number", [(1, 2, ("set", "n", 0), 0)]), [([], 0)])

    def test_no_calls(self):
        self.assertEqual(order_of("row", []), ("order", []))
        self.assertEqual(order_of("number", []), ("order", []))

    def test_calls_that_are_alike(self):
        alike = overlapping([(("put", "a", 5), None)] * 3 + [(("take", "a"), 5)] * 3 + [(("take", "a"), None)] * 3)
        self.assert_order("row", alike)
        self.assert_none("row", alike + overlapping([(("take", "a"), 5)]))
        self.assert_order("number", overlapping([(("add", "n", 2), 2), (("set", "n", 0), None)] * 3))
        self.assert_none("number", overlapping([(("add", "n", 2), 2)] * 3))

    def test_alike_but_for_their_times(self):
        # The put that ends first must come first, though it stands last in the list.
        calls = [
            (0, 50, ("put", "a", 5), None),
            (0, 3, ("put", "a", 5), None),
            (4, 5, ("take", "a"), 5),
            (6, 7, ("look", "a"), None),
            (8, 9, ("take", "a"), 5),
        ]
        self.assertEqual(self.assert_order("row", calls), [1, 2, 3, 0, 4])
        calls.reverse()
        self.assertEqual(self.assert_order("row", calls), [3, 2, 1, 4, 0])

    def test_takes_alike_but_for_their_times(self):
        # The take that ends first must get the first five, as it is ahead of the take of the six.
        puts = one_after_the_other([(("put", "a", value), None) for value in (5, 6, 5)])
        takes = [
            (30, 90, ("take", "a"), 5),
            (30, 40, ("take", "a"), 5),
            (50, 60, ("take", "a"), 6),
        ]
        self.assertEqual(self.assert_order("row", puts + takes), [0, 1, 2, 4, 5, 3])
        self.assertEqual(self.assert_order("row", takes[::-1] + puts), [3, 4, 5, 1, 0, 2])

    def test_set_that_changes_nothing_yet(self):
        calls = [
            (0, 50, ("set", "n", 0), None),
            (1, 5, ("look", "n"), 0),
            (10, 15, ("set", "n", 7), None),
            (20, 25, ("look", "n"), 7),
            (30, 35, ("look", "n"), 0),
        ]
        self.assertEqual(self.assert_order("number", calls), [1, 2, 3, 0, 4])

    def test_look_that_needs_a_later_value_alike(self):
        calls = [
            (0, 1, ("put", "a", 5), None),
            (0, 90, ("take", "a"), 5),
            (10, 11, ("put", "a", 6), None),
            (20, 21, ("look", "a"), 6),
            (30, 31, ("put", "a", 5), None),
            (40, 41, ("take", "a"), 6),
            (50, 51, ("look", "a"), 5),
        ]
        self.assert_order("row", calls)
        self.assert_none("row", calls[:4] + calls[5:])

    def test_one_thing_whatever_its_name(self):
        self.assert_order("row", [(1, 2, ("put", "a", 5), None), (3, 4, ("take", "b"), 5)])
        self.assert_none("number", [(1, 2, ("set", "a", 5), None), (3, 4, ("look", "b"), 0)])

    def test_very_large_numbers(self):
        calls = [
            (-BIG, BIG, ("put", "a", BIG), None),
            (-BIG, BIG, ("put", "a", -BIG), None),
            (BIG + 1, BIG + 2, ("take", "a"), -BIG),
        ]
        self.assertEqual(self.assert_order("row", calls), [1, 0, 2])
        self.assert_none("row", calls[:2] + [(BIG + 1, BIG + 2, ("take", "a"), BIG - 1)])
        calls = [(0, 9, ("add", "n", BIG), BIG), (0, 9, ("add", "n", BIG), 2 * BIG), (0, 9, ("look", "n"), 0)]
        self.assertEqual(self.assert_order("number", calls), [2, 0, 1])
        self.assert_none("number", calls[1:])


class TestSmallLists(OrderCase):
    def assert_by_words(self, kind, calls):
        if by_words.has_order(kind, calls):
            self.assert_order(kind, calls)
        else:
            self.assertTrue(by_words.shows_none(kind, calls, self.assert_none(kind, calls)))

    def test_all_lists_of_two_calls(self):
        for kind, done in DONE.items():
            choices = [times + pair for times in TIMES for pair in done]
            for calls in itertools.product(choices, repeat=2):
                self.assert_by_words(kind, list(calls))

    def test_many_lists_of_four_calls(self):
        for kind, done in DONE.items():
            choices = [times + pair for times in TIMES for pair in done]
            lists = itertools.combinations_with_replacement(choices, 4)
            for calls in itertools.islice(lists, 0, None, 23):
                self.assert_by_words(kind, list(calls))

    def test_histories_with_an_answer_of_another(self):
        for seed in range(300):
            kind = ("row", "number")[seed % 2]
            calls = by_words.history(seed, {"a": kind}, 6, (15, 40, 90)[seed % 3], (1, 2, 3) if seed % 5 else None)
            self.assert_order(kind, calls)
            calls[0] = calls[0][:3] + (calls[1][3],)
            calls[2] = calls[2][:3] + (calls[3][3],)
            self.assert_by_words(kind, calls)


class TestManyCalls(OrderCase):
    def test_thirty_that_do_not_overlap(self):
        adds = [(("add", "n", 1), step + 1) for step in range(30)]
        puts = [(("put", "a", step), None) for step in range(15)]
        takes = [(("take", "a"), step) for step in range(15)]
        with by_words.within(60):
            calls = one_after_the_other(adds)
            self.assertEqual(self.assert_order("number", calls), list(range(30)))
            self.assertEqual(self.assert_order("number", calls[::-1]), list(range(29, -1, -1)))
            self.assertEqual(len(self.assert_none("number", calls[:29] + [(500, 501, ("look", "n"), 0)])), 30)
            self.assertEqual(self.assert_order("row", one_after_the_other(puts + takes)), list(range(30)))
            self.assertEqual(len(self.assert_none("row", one_after_the_other(puts + takes[1:] + takes[:1]))), 16)

    def test_somewhat_more_than_thirty(self):
        adds = [(("add", "n", 1), step + 1) for step in range(60)]
        with by_words.within(60):
            self.assertEqual(self.assert_order("number", one_after_the_other(adds)), list(range(60)))
            self.assertEqual(len(self.assert_none("number", one_after_the_other(adds[:-2] + adds[-1:]))), 59)

    def test_twelve_of_a_number_that_overlap(self):
        sets = [(("set", "n", value), None) for value in range(1, 7)]
        looks = [(("look", "n"), value) for value in range(6, 0, -1)]
        with by_words.within(60):
            self.assert_order("number", overlapping(sets + looks))
            self.assert_order("number", overlapping(looks + sets))
            self.assert_none("number", overlapping(sets + looks[:5] + [(("look", "n"), 7)]))
            self.assert_none("number", overlapping([(("look", "n"), 7)] + looks[:5] + sets))

    def test_twelve_adds_that_overlap(self):
        adds = [(("add", "n", step), step * (step + 1) // 2) for step in range(12)]
        with by_words.within(60):
            self.assert_order("number", overlapping(adds))
            self.assert_order("number", overlapping(adds[::-1]))
            self.assert_none("number", overlapping(adds[:7] + adds[8:] + [(("add", "n", 7), 29)]))

    def test_twelve_sets_that_overlap(self):
        sets = [(("set", "n", value), None) for value in range(1, 13)]
        with by_words.within(60):
            self.assert_order("number", overlapping(sets) + [(200, 201, ("look", "n"), 5)])
            dead = self.assert_none("number", overlapping(sets) + [(200, 201, ("look", "n"), 13)])
        self.assertEqual(len(dead), 1 + 12 * 2**11)

    def test_twelve_of_a_row_that_overlap(self):
        puts = [(("put", "a", value), None) for value in range(6)]
        takes = [(("take", "a"), value) for value in range(6)]
        with by_words.within(60):
            self.assert_order("row", overlapping(puts + takes))
            self.assert_order("row", overlapping(takes[::-1] + puts))
            self.assert_none("row", overlapping(puts + takes[:5] + [(("take", "a"), 6)]))
            self.assert_none("row", overlapping([(("look", "a"), 6)] + takes[:5] + puts))
            self.assert_none("row", overlapping(puts + puts[:3] + [(("look", "a"), 1), (("look", "a"), 2)]))

    def test_seven_puts_in_each_order(self):
        puts = [(("put", "a", value), None) for value in range(7)]
        with by_words.within(60):
            dead = self.assert_none("row", overlapping(puts) + [(200, 201, ("take", "a"), 7)])
        # All that seven calls, or fewer of them, can be put into an order as.
        self.assertEqual(len(dead), 13700)

    def test_twelve_puts_that_overlap_and_are_taken_in_any_order(self):
        puts = overlapping([(("put", "a", value), None) for value in range(12)])
        for step in (1, 5, 7, 11):
            taken = [step * place % 12 for place in range(12)]
            takes = one_after_the_other([(("take", "a"), value) for value in taken], 200)
            with by_words.within(60):
                self.assertEqual(self.assert_order("row", puts + takes), taken + list(range(12, 24)))

    def test_twelve_puts_and_then_twelve_takes_that_overlap(self):
        puts = [(0, 100, ("put", "a", value), None) for value in range(12)]
        takes = [(200, 300, ("take", "a"), 11 - value) for value in range(12)]
        with by_words.within(60):
            self.assert_order("row", puts + takes)
            self.assert_order("row", puts + takes[:8] + [(400, 401, ("look", "a"), 2)])

    def test_row_that_must_be_empty_once_more(self):
        # Puts that are never taken must wait until the row has been seen empty.
        puts = [(0, 50, ("put", "a", value), None) for value in range(9)]
        ends = [(0, 4, ("put", "a", 99), None), (0, 60, ("take", "a"), 99), (15, 58, ("look", "a"), None)]
        with by_words.within(60):
            self.assert_order("row", puts + ends)
            self.assert_order("row", ends + puts)

    def test_look_that_is_behind_other_takes(self):
        # The value that is looked at must be put behind most of the others, as these are taken ahead of the look, though
        # its own take can come early.
        puts = overlapping([(("put", "a", value), None) for value in range(12)])
        takes = [(150, 250, ("take", "a"), value) for value in range(1, 11)]
        late = [(150, 400, ("take", "a"), 0), (300, 400, ("look", "a"), 0), (500, 501, ("look", "a"), 11)]
        with by_words.within(60):
            self.assert_order("row", puts + takes + late)
            self.assert_order("row", late + takes + puts[::-1])

    def test_histories_of_thirty_calls(self):
        tried = 0
        for seed in range(150):
            kind = ("row", "row", "number")[seed % 3]
            calls = by_words.history(seed, {"a": kind}, 30, (30, 50, 70)[seed % 4 % 3], (1, 2, 3) if seed % 2 else None)
            if by_words.most_that_overlap(calls) <= 12:
                tried += 1
                with by_words.within(60):
                    self.assert_order(kind, calls)
        self.assertGreater(tried, 100)


class TestRefusals(unittest.TestCase):
    def test_another_kind(self):
        for kind in ("", "Row", "rows", "numbers", "a"):
            self.assertRaises(NoKind, order_of, kind, [])
            self.assertRaises(NoKind, order_of, kind, [(1, 2, ("look", "a"), None)])

    def test_another_kind_is_refused_ahead_of_bad_calls(self):
        for call in ((2, 1, ("look", "a"), None), (1, 2, ("look", "a", 5), None), (1, 2, ("jump", "a"), None)):
            self.assertRaises(NoKind, order_of, "text", [call])

    def test_bad_calls(self):
        good = {
            "row": [(1, 2, ("put", "a", 5), None), (3, 4, ("take", "a"), 6)],
            "number": [(1, 2, ("set", "n", 5), None), (3, 4, ("look", "n"), 6)],
        }
        bad_deeds = {
            "row": [("set", "a", 5), ("add", "a", 5), ("put", "a"), ("take", "a", 5), ("look", "a", 5), ("put",)],
            "number": [("put", "n", 5), ("take", "n"), ("set", "n"), ("add", "n"), ("look", "n", 5), ("look",)],
        }
        for kind in ("row", "number"):
            bad = [(1, 2, deed, None) for deed in bad_deeds[kind]]
            bad += [(2, 2, ("look", "a"), None), (3, 2, ("look", "a"), None)]
            for call in bad:
                for place in range(3):
                    calls = good[kind][:place] + [call] + good[kind][place:]
                    self.assertRaises(BadCall, order_of, kind, calls)
                self.assertRaises(BadCall, order_of, kind, [call])


class TestInterface(unittest.TestCase):
    def test_what_is_handed_in_is_not_changed(self):
        puts = [(1, 4, ("put", "a", 5), None), (2, 6, ("put", "a", 6), None)]
        for last in ((7, 9, ("take", "a"), 6), (7, 9, ("take", "a"), 7)):
            calls = [*puts, last]
            before = copy.deepcopy(calls)
            order_of("row", calls)[1].append(99)
            self.assertEqual(calls, before)

    def test_dead_ends_are_lists_of_their_own(self):
        calls = [(1, 4, ("put", "a", 5), None), (2, 6, ("put", "a", 6), None), (7, 9, ("take", "a"), 7)]
        first = order_of("row", calls)
        before = copy.deepcopy(first)
        for dead_end in order_of("row", calls)[1]:
            dead_end[0].append(99)
        self.assertEqual(first, before)
        self.assertEqual(len({id(dead_end[0]) for dead_end in first[1]}), len(first[1]))

    def test_argument_names(self):
        self.assertEqual(order_of(kind="number", calls=[]), ("order", []))


if __name__ == "__main__":
    unittest.main()
