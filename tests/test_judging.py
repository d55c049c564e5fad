import copy
import itertools
import unittest

import by_words
from callorder.errors import BadCall, NoKind
from callorder.judging import is_order, shows_none

BIG = 10**100 - 1

# Two puts that overlap, a look that overlaps with the second one, and two takes behind them all.
ROW_CALLS = [
    (1, 4, ("put", "a", 5), None),
    (3, 8, ("put", "a", 6), None),
    (6, 9, ("look", "a"), 6),
    (10, 12, ("take", "a"), 6),
    (13, 15, ("take", "a"), 5),
]
NUMBER_CALLS = [
    (1, 9, ("set", "n", 5), None),
    (2, 6, ("add", "n", -2), 3),
    (4, 8, ("look", "n"), 0),
    (10, 12, ("look", "n"), 3),
]

# Two puts that overlap, and a take of what was never put.
NO_ORDER = [(1, 4, ("put", "a", 5), None), (2, 6, ("put", "a", 6), None), (7, 9, ("take", "a"), 7)]
SHOWS = [([0, 1], (5, 6)), ([0, 1], (6, 5)), ([0], (5,)), ([1], (6,)), ([], ())]

BAD_CALLS = {
    "row": [
        (1, 4, ("set", "a", 5), None),
        (1, 4, ("add", "a", 5), 5),
        (1, 4, ("jump", "a"), None),
        (1, 4, ("put", "a"), None),
        (1, 4, ("put", "a", 5, 6), None),
        (1, 4, ("take", "a", 5), None),
        (1, 4, ("look", "a", 5), None),
        (1, 4, ("look",), None),
        (4, 4, ("look", "a"), None),
        (4, 3, ("look", "a"), None),
        (0, -1, ("put", "a", 5), None),
    ],
    "number": [
        (1, 4, ("put", "n", 5), None),
        (1, 4, ("take", "n"), None),
        (1, 4, ("jump", "n"), 0),
        (1, 4, ("set", "n"), None),
        (1, 4, ("add", "n"), 0),
        (1, 4, ("add", "n", 5, 6), 5),
        (1, 4, ("look", "n", 5), 0),
        (1, 4, ("set",), None),
        (4, 4, ("look", "n"), 0),
        (4, 3, ("look", "n"), 0),
        (0, -1, ("set", "n", 5), None),
    ],
}
GOOD_CALLS = {"row": ROW_CALLS, "number": NUMBER_CALLS}
NO_KINDS = ("", "Row", "rows", "row ", "numbers", "NUMBER", "a", "put")


class TestIsOrder(unittest.TestCase):
    def test_an_order_of_a_row(self):
        self.assertIs(is_order("row", ROW_CALLS, [1, 0, 2, 3, 4]), True)
        self.assertIs(is_order("row", ROW_CALLS, [1, 2, 0, 3, 4]), False)

    def test_an_order_of_a_number(self):
        self.assertIs(is_order("number", NUMBER_CALLS, [2, 0, 1, 3]), True)
        self.assertIs(is_order("number", NUMBER_CALLS, [0, 1, 2, 3]), False)

    def test_a_number_is_missing(self):
        for place in range(5):
            order = [1, 0, 2, 3, 4]
            order.pop(place)
            self.assertIs(is_order("row", ROW_CALLS, order), False)
        self.assertIs(is_order("row", ROW_CALLS, []), False)
        # The calls that are left give their answers.
        self.assertIs(is_order("number", [(1, 2, ("look", "n"), 0)], []), False)

    def test_a_number_is_there_twice(self):
        looks = [(1, 4, ("look", "a"), None), (1, 4, ("look", "a"), None)]
        self.assertIs(is_order("row", looks, [0, 1]), True)
        self.assertIs(is_order("row", looks, [0, 1, 1]), False)
        self.assertIs(is_order("row", looks, [0, 1, 0]), False)
        self.assertIs(is_order("row", looks, [0, 0]), False)
        self.assertIs(is_order("row", looks, [1, 1]), False)

    def test_a_number_that_no_call_has(self):
        looks = [(1, 4, ("look", "a"), None), (1, 4, ("look", "a"), None)]
        for number in (-1, -2, -3, 2, 3, BIG, -BIG):
            for order in ([0, number], [number, 1], [number, 0], [0, 1, number], [number, 0, 1], [number]):
                self.assertIs(is_order("row", looks, order), False)

    def test_against_time(self):
        looks = [(1, 2, ("look", "n"), 0), (3, 4, ("look", "n"), 0), (5, 6, ("look", "n"), 0)]
        for order in itertools.permutations(range(3)):
            self.assertIs(is_order("number", looks, list(order)), order == (0, 1, 2))

    def test_against_time_with_others_between(self):
        looks = [(1, 2, ("look", "n"), 0), (1, 9, ("look", "n"), 0), (3, 4, ("look", "n"), 0)]
        self.assertIs(is_order("number", looks, [2, 1, 0]), False)
        self.assertIs(is_order("number", looks, [0, 1, 2]), True)
        self.assertIs(is_order("number", looks, [0, 2, 1]), True)
        self.assertIs(is_order("number", looks, [1, 0, 2]), True)

    def test_one_ends_when_the_other_begins(self):
        looks = [(1, 3, ("look", "n"), 0), (3, 4, ("look", "n"), 0)]
        self.assertIs(is_order("number", looks, [0, 1]), True)
        self.assertIs(is_order("number", looks, [1, 0]), True)

    def test_answers_that_do_not_come(self):
        self.assertIs(is_order("row", ROW_CALLS, [0, 1, 2, 3, 4]), False)
        self.assertIs(is_order("row", [(1, 2, ("put", "a", 5), 5)], [0]), False)
        self.assertIs(is_order("row", [(1, 2, ("take", "a"), 0)], [0]), False)
        self.assertIs(is_order("row", [(1, 2, ("put", "a", 0), None), (3, 4, ("look", "a"), None)], [0, 1]), False)
        self.assertIs(is_order("number", [(1, 2, ("look", "n"), None)], [0]), False)
        self.assertIs(is_order("number", [(1, 2, ("set", "n", 0), 0)], [0]), False)
        self.assertIs(is_order("number", [(1, 2, ("add", "n", 1), 0)], [0]), False)

    def test_the_last_answer_does_not_come(self):
        calls = ROW_CALLS + [(16, 18, ("take", "a"), 5)]
        self.assertIs(is_order("row", calls, [1, 0, 2, 3, 4, 5]), False)

    def test_no_calls(self):
        for kind in ("row", "number"):
            self.assertIs(is_order(kind, [], []), True)
            for number in (0, 1, -1):
                self.assertIs(is_order(kind, [], [number]), False)

    def test_calls_that_are_alike(self):
        calls = [(1, 4, ("add", "n", 2), 2), (1, 4, ("add", "n", 2), 4), (1, 4, ("add", "n", 2), 2)]
        self.assertFalse(any(is_order("number", calls, list(order)) for order in itertools.permutations(range(3))))
        calls = [(1, 4, ("put", "a", 2), None), (1, 4, ("put", "a", 2), None), (5, 6, ("take", "a"), 2)]
        self.assertIs(is_order("row", calls, [0, 1, 2]), True)
        self.assertIs(is_order("row", calls, [1, 0, 2]), True)

    def test_one_thing_whatever_its_name(self):
        calls = [(1, 2, ("put", "a", 5), None), (3, 4, ("take", "b"), 5), (5, 6, ("take", ""), None)]
        self.assertIs(is_order("row", calls, [0, 1, 2]), True)
        calls = [(1, 2, ("set", "two words", 5), None), (3, 4, ("look", "B"), 0)]
        self.assertIs(is_order("number", calls, [0, 1]), False)

    def test_very_large_numbers(self):
        calls = [(-BIG, BIG, ("add", "n", BIG), BIG), (BIG, BIG + 1, ("add", "n", -BIG), 0)]
        self.assertIs(is_order("number", calls, [0, 1]), True)
        self.assertIs(is_order("number", calls, [1, 0]), False)
        calls = [(-BIG, BIG, ("put", "a", BIG), None), (BIG + 1, BIG + 2, ("take", "a"), BIG)]
        self.assertIs(is_order("row", calls, [0, 1]), True)
        self.assertIs(is_order("row", calls, [1, 0]), False)

    def test_thirty_calls_and_beyond(self):
        for many in (30, 60, 150):
            calls = [(3 * step, 3 * step + 1, ("add", "n", 1), step + 1) for step in range(many)]
            self.assertIs(is_order("number", calls, list(range(many))), True)
            self.assertIs(is_order("number", calls[:-1] + [calls[-1][:3] + (0,)], list(range(many))), False)
            calls.reverse()
            self.assertIs(is_order("number", calls, list(range(many - 1, -1, -1))), True)
            self.assertIs(is_order("number", calls, list(range(many))), False)

    def test_every_list_of_some_numbers(self):
        for kind, calls in GOOD_CALLS.items():
            for length in range(5):
                for order in itertools.product(range(-1, len(calls) + 1), repeat=length):
                    told = is_order(kind, calls[:4], list(order))
                    self.assertIs(told, by_words.is_order(kind, calls[:4], list(order)), (kind, order))

    def test_every_order_of_histories(self):
        for seed in range(60):
            kind = ("row", "number")[seed % 2]
            calls = by_words.history(seed, {"a": kind}, 5, 40, (1, 2))
            for order in itertools.permutations(range(5)):
                told = is_order(kind, calls, list(order))
                self.assertIs(told, by_words.is_order(kind, calls, list(order)), (seed, order))


class TestShowsNone(unittest.TestCase):
    def test_dead_ends_that_show_it(self):
        self.assertIs(shows_none("row", NO_ORDER, SHOWS), True)
        self.assertIs(shows_none("number", [(1, 2, ("look", "n"), 5)], [([], 0)]), True)
        self.assertIs(shows_none("row", [(1, 2, ("look", "a"), 5)], [([], ())]), True)

    def test_dead_ends_of_a_number(self):
        calls = [(1, 5, ("set", "n", 4), None), (2, 6, ("add", "n", 1), 5), (7, 9, ("look", "n"), 4)]
        self.assertIs(shows_none("number", calls, [([0, 1], 5), ([0], 4), ([], 0)]), True)
        self.assertIs(shows_none("number", calls, [([0, 1], 4), ([0], 4), ([], 0)]), False)
        self.assertIs(shows_none("number", calls, [([0, 1], 5), ([0], 5), ([], 0)]), False)

    def test_without_one_of_them(self):
        for place in range(5):
            dead = SHOWS[:place] + SHOWS[place + 1 :]
            self.assertIs(shows_none("row", NO_ORDER, dead), False)

    def test_with_one_twice(self):
        for place in range(5):
            dead = SHOWS[: place + 1] + SHOWS[place:]
            self.assertIs(shows_none("row", NO_ORDER, dead), True)
        for place in range(4):
            self.assertIs(shows_none("row", NO_ORDER, SHOWS + [SHOWS[place]]), False)
            self.assertIs(shows_none("row", NO_ORDER, SHOWS[:4] + [SHOWS[place]] + SHOWS[4:]), True)

    def test_in_another_order(self):
        for order in itertools.permutations(SHOWS):
            told = shows_none("row", NO_ORDER, list(order))
            self.assertIs(told, by_words.shows_none("row", NO_ORDER, list(order)), order)
        self.assertIs(shows_none("row", NO_ORDER, SHOWS[::-1]), False)
        self.assertIs(shows_none("row", NO_ORDER, [SHOWS[4]] + SHOWS[:4]), False)
        self.assertIs(shows_none("row", NO_ORDER, [SHOWS[2], SHOWS[0], SHOWS[1], SHOWS[3], SHOWS[4]]), False)
        self.assertIs(shows_none("row", NO_ORDER, [SHOWS[1], SHOWS[3], SHOWS[0], SHOWS[2], SHOWS[4]]), True)

    def test_with_another_state(self):
        for place in range(5):
            for thing in ((7,), (5, 5), (6,), (5,), (5, 6), (6, 5), ()):
                if thing != SHOWS[place][1]:
                    dead = list(SHOWS)
                    dead[place] = (SHOWS[place][0], thing)
                    self.assertIs(shows_none("row", NO_ORDER, dead), False, dead)

    def test_with_a_call_too_few_or_too_many_in_one(self):
        for place, (gone, thing) in enumerate(SHOWS):
            for other in ([], [0], [1], [2], [0, 1], [0, 2], [1, 2], [0, 1, 2]):
                if other != gone:
                    dead = list(SHOWS)
                    dead[place] = (other, thing)
                    self.assertIs(shows_none("row", NO_ORDER, dead), False, dead)

    def test_with_nothing_in_the_list(self):
        self.assertIs(shows_none("row", NO_ORDER, []), False)
        self.assertIs(shows_none("number", [(1, 2, ("look", "n"), 5)], []), False)
        self.assertIs(shows_none("row", [], []), False)

    def test_the_last_one_is_that_of_the_beginning(self):
        look = [(1, 2, ("look", "n"), 5), (3, 4, ("look", "n"), 5)]
        self.assertIs(shows_none("number", look, [([], 0)]), True)
        self.assertIs(shows_none("number", look, [([], 1)]), False)
        self.assertIs(shows_none("number", look, [([0], 0)]), False)
        self.assertIs(shows_none("number", look, [([], 0), ([], 1)]), False)
        self.assertIs(shows_none("number", look, [([], 0), ([0], 0)]), False)
        self.assertIs(shows_none("number", look, [([0], 0), ([], 1), ([], 0)]), True)

    def test_all_calls_gone_is_no_dead_end(self):
        call = [(1, 2, ("put", "a", 5), None)]
        self.assertIs(shows_none("row", call, [([0], (5,)), ([], ())]), False)
        self.assertIs(shows_none("row", call, [([], ())]), False)
        wrong = [(1, 2, ("put", "a", 5), 5)]
        self.assertIs(shows_none("row", wrong, [([], ())]), True)
        self.assertIs(shows_none("row", wrong, [([0], (5,)), ([], ())]), False)

    def test_no_calls(self):
        self.assertIs(shows_none("row", [], [([], ())]), False)
        self.assertIs(shows_none("number", [], [([], 0)]), False)

    def test_each_call_that_can_come_next_is_asked(self):
        calls = [(1, 4, ("look", "n"), 5), (1, 4, ("set", "n", 5), None)]
        self.assertIs(shows_none("number", calls, [([], 0)]), False)
        self.assertIs(shows_none("number", calls, [([1], 5), ([], 0)]), False)
        self.assertIs(shows_none("number", calls, [([1], 0), ([], 0)]), False)

    def test_calls_that_can_not_come_next_are_not_asked(self):
        calls = [(5, 6, ("set", "n", 5), None), (1, 4, ("look", "n"), 5)]
        self.assertIs(shows_none("number", calls, [([], 0)]), True)
        # This one can come next, as it begins when the other one ends.
        calls = [(4, 6, ("set", "n", 5), None), (1, 4, ("look", "n"), 5)]
        self.assertIs(shows_none("number", calls, [([], 0)]), False)

    def test_none_and_nought_are_two_answers(self):
        self.assertIs(shows_none("number", [(1, 2, ("look", "n"), None)], [([], 0)]), True)
        self.assertIs(shows_none("row", [(1, 2, ("take", "a"), 0)], [([], ())]), True)
        self.assertIs(shows_none("number", [(1, 2, ("look", "n"), 0)], [([], 0)]), False)
        self.assertIs(shows_none("row", [(1, 2, ("take", "a"), None)], [([], ())]), False)

    def test_numbers_that_no_call_has(self):
        look = [(1, 2, ("look", "n"), 5)]
        for number in (1, 2, -1, BIG):
            self.assertIs(shows_none("number", look, [([number], 0), ([], 0)]), False)

    def test_what_the_kind_can_not_be(self):
        for thing in (0, 5, None, (None,), [5]):
            self.assertIs(shows_none("row", NO_ORDER, [([0, 1], thing)] + SHOWS), False)
        for thing in ((), (5,), None, [0]):
            self.assertIs(shows_none("number", [(1, 2, ("look", "n"), 5)], [([], thing), ([], 0)]), False)

    def test_one_thing_whatever_its_name(self):
        calls = [(1, 2, ("set", "a", 5), None), (3, 4, ("look", "b"), 0)]
        self.assertIs(shows_none("number", calls, [([0], 5), ([], 0)]), True)

    def test_very_large_numbers(self):
        calls = [(-BIG, BIG - 1, ("add", "n", BIG), BIG), (BIG, BIG + 1, ("look", "n"), BIG - 1)]
        self.assertIs(shows_none("number", calls, [([0], BIG), ([], 0)]), True)
        self.assertIs(shows_none("number", calls, [([0], BIG - 1), ([], 0)]), False)

    def test_thirty_calls_and_beyond(self):
        for many in (30, 60, 150):
            calls = [(3 * step, 3 * step + 1, ("put", "a", step), None) for step in range(many - 1)]
            calls.append((3 * many, 3 * many + 1, ("take", "a"), 1))
            dead = [(list(range(gone)), tuple(range(gone))) for gone in range(many - 1, -1, -1)]
            self.assertIs(shows_none("row", calls, dead), True)
            self.assertIs(shows_none("row", calls, dead[1:]), False)
            self.assertIs(shows_none("row", calls, dead[:-1]), False)

    def test_many_dead_ends(self):
        sets = [(0, 9, ("set", "n", value), None) for value in range(1, 13)]
        calls = sets + [(10, 11, ("look", "n"), 99)]
        dead = []
        for many in range(12, 0, -1):
            for gone in itertools.combinations(range(12), many):
                dead.extend((list(gone), last + 1) for last in gone)
        with by_words.within(60):
            self.assertIs(shows_none("number", calls, dead + [([], 0)]), True)
            self.assertIs(shows_none("number", calls, dead[1:] + [([], 0)]), False)


class TestRefusals(unittest.TestCase):
    def each_judge(self):
        yield lambda kind, calls: is_order(kind, calls, list(range(len(calls))))
        yield lambda kind, calls: is_order(kind, calls, [])
        yield lambda kind, calls: is_order(kind, calls, [-1, 5, 5])
        yield lambda kind, calls: shows_none(kind, calls, [])
        yield lambda kind, calls: shows_none(kind, calls, [([], ())])
        yield lambda kind, calls: shows_none(kind, calls, [([0], 0), ([], 0)])

    def test_another_kind(self):
        for judge in self.each_judge():
            for kind in NO_KINDS:
                self.assertRaises(NoKind, judge, kind, [])
                self.assertRaises(NoKind, judge, kind, ROW_CALLS)

    def test_another_kind_is_refused_ahead_of_bad_calls(self):
        for judge in self.each_judge():
            for call in BAD_CALLS["row"] + BAD_CALLS["number"]:
                self.assertRaises(NoKind, judge, "text", [call])
                self.assertRaises(NoKind, judge, "", ROW_CALLS + [call])

    def test_bad_calls(self):
        for judge in self.each_judge():
            for kind, bad_calls in BAD_CALLS.items():
                for call in bad_calls:
                    with self.subTest(kind=kind, call=call):
                        self.assertRaises(BadCall, judge, kind, [call])
                        for place in range(len(GOOD_CALLS[kind]) + 1):
                            calls = GOOD_CALLS[kind][:place] + [call] + GOOD_CALLS[kind][place:]
                            self.assertRaises(BadCall, judge, kind, calls)

    def test_calls_of_the_other_kind(self):
        for judge in self.each_judge():
            self.assertRaises(BadCall, judge, "number", ROW_CALLS)
            self.assertRaises(BadCall, judge, "row", NUMBER_CALLS)


class TestInterface(unittest.TestCase):
    def test_what_is_handed_in_is_not_changed(self):
        calls = list(ROW_CALLS)
        order = [1, 0, 2, 3, 4]
        no_order = list(NO_ORDER)
        dead = copy.deepcopy(SHOWS)
        before = copy.deepcopy((calls, order, no_order, dead))
        is_order("row", calls, order)
        is_order("row", calls, order[::-1])
        shows_none("row", no_order, dead)
        shows_none("row", no_order, dead[:3])
        self.assertEqual((calls, order, no_order, dead), before)

    def test_argument_names(self):
        self.assertIs(is_order(kind="row", calls=[], order=[]), True)
        self.assertIs(shows_none(kind="row", calls=NO_ORDER, dead=SHOWS), True)


if __name__ == "__main__":
    unittest.main()
