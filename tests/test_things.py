import copy
import itertools
import unittest

import by_words
from callorder.errors import BadCall, NoKind, NoThing
from callorder.finding import order_of
from callorder.judging import is_order, shows_none
from callorder.things import calls_of, is_order_of_all, order_of_all

KINDS = {"b": "row", "a": "number"}

# For each thing alone there are two orders of the first two; only one of them keeps time with the other thing's.
CALLS = [
    (1, 9, ("put", "b", 5), None),
    (2, 3, ("set", "a", 4), None),
    (4, 12, ("add", "a", 1), 5),
    (10, 14, ("take", "b"), 5),
    (13, 15, ("look", "a"), 5),
]


def is_order_by_words(kinds, calls, order):
    if sorted(order) != list(range(len(calls))):
        return False
    for first, second in itertools.combinations(order, 2):
        if by_words.is_ahead(calls[second], calls[first]):
            return False
    for thing, kind in kinds.items():
        own = [calls[number] for number in order if calls[number][2][1] == thing]
        state = by_words.begin_of(kind)
        for begin, end, deed, answer in own:
            state, told = by_words.do(kind, state, deed)
            if told != answer:
                return False
    return True


class TestCallsOf(unittest.TestCase):
    def test_the_numbers_of_a_thing(self):
        self.assertEqual(calls_of(CALLS, "a"), [1, 2, 4])
        self.assertEqual(calls_of(CALLS, "b"), [0, 3])

    def test_a_thing_without_calls(self):
        self.assertEqual(calls_of(CALLS, "c"), [])
        self.assertEqual(calls_of(CALLS, ""), [])
        self.assertEqual(calls_of(CALLS, "A"), [])
        self.assertEqual(calls_of(CALLS, "put"), [])
        self.assertEqual(calls_of([], "a"), [])

    def test_all_calls_of_one_thing(self):
        calls = [(9 - step, 12, ("look", "two words"), None) for step in range(5)]
        self.assertEqual(calls_of(calls, "two words"), [0, 1, 2, 3, 4])

    def test_calls_that_are_alike(self):
        self.assertEqual(calls_of(CALLS + CALLS, "b"), [0, 3, 5, 8])

    def test_deeds_of_any_word(self):
        words = [("put", "a", 1), ("take", "a"), ("look", "a"), ("set", "a", 1), ("add", "a", 1), ("look", "b")]
        self.assertEqual(calls_of([(1, 2, deed, None) for deed in words], "a"), [0, 1, 2, 3, 4])

    def test_hundred_and_fifty_calls(self):
        calls = [(step, step + 1, ("look", "ab"[step % 2]), 0) for step in range(150)]
        self.assertEqual(calls_of(calls, "b"), list(range(1, 150, 2)))

    def test_call_that_does_not_begin_ahead_of_its_end(self):
        for times in ((4, 4), (5, 4)):
            self.assertRaises(BadCall, calls_of, CALLS + [times + (("look", "a"), 5)], "a")
            self.assertRaises(BadCall, calls_of, [times + (("look", "a"), 5)] + CALLS, "b")


class TestIsOrderOfAll(unittest.TestCase):
    def test_an_order_that_is_one(self):
        self.assertIs(is_order_of_all(KINDS, CALLS, [0, 1, 2, 3, 4]), True)
        self.assertIs(is_order_of_all(KINDS, CALLS, [1, 0, 2, 3, 4]), True)
        self.assertIs(is_order_of_all(KINDS, CALLS, [1, 2, 0, 4, 3]), True)

    def test_one_call_missing(self):
        for place in range(5):
            order = [0, 1, 2, 3, 4]
            order.pop(place)
            self.assertIs(is_order_of_all(KINDS, CALLS, order), False)
        self.assertIs(is_order_of_all({"a": "number"}, [(1, 2, ("look", "a"), 0)], []), False)

    def test_one_call_twice(self):
        for number in range(5):
            for place in range(6):
                order = [0, 1, 2, 3, 4]
                order.insert(place, number)
                self.assertIs(is_order_of_all(KINDS, CALLS, order), False)
        looks = [(1, 9, ("look", "a"), 0), (1, 9, ("look", "b"), None)]
        self.assertIs(is_order_of_all(KINDS, looks, [1, 0]), True)
        self.assertIs(is_order_of_all(KINDS, looks, [1, 1]), False)

    def test_a_number_that_no_call_has(self):
        for number in (-1, -5, 5, 6, 10**100):
            self.assertIs(is_order_of_all(KINDS, CALLS, [0, 1, 2, 3, number]), False)
            self.assertIs(is_order_of_all(KINDS, CALLS, [0, 1, 2, 3, 4, number]), False)

    def test_against_time_across_two_things(self):
        calls = [(1, 2, ("look", "a"), 0), (3, 4, ("look", "b"), None)]
        self.assertIs(is_order_of_all(KINDS, calls, [0, 1]), True)
        self.assertIs(is_order_of_all(KINDS, calls, [1, 0]), False)
        self.assertIs(is_order_of_all(KINDS, CALLS, [1, 2, 4, 0, 3]), False)
        self.assertIs(is_order_of_all(KINDS, CALLS, [0, 3, 1, 2, 4]), False)

    def test_against_time_in_one_thing(self):
        calls = [(1, 2, ("look", "a"), 0), (3, 4, ("look", "a"), 0), (1, 9, ("look", "b"), None)]
        self.assertIs(is_order_of_all(KINDS, calls, [0, 1, 2]), True)
        self.assertIs(is_order_of_all(KINDS, calls, [1, 2, 0]), False)

    def test_answers_of_one_thing_that_do_not_come(self):
        for number in range(5):
            calls = list(CALLS)
            calls[number] = CALLS[number][:3] + (99,)
            self.assertIs(is_order_of_all(KINDS, calls, [0, 1, 2, 3, 4]), False)
        swapped = [(1, 9, ("put", "b", 5), None), (2, 8, ("take", "b"), None), (1, 9, ("look", "a"), 0)]
        self.assertIs(is_order_of_all(KINDS, swapped, [1, 0, 2]), True)
        self.assertIs(is_order_of_all(KINDS, swapped, [0, 1, 2]), False)

    def test_each_thing_is_its_own(self):
        kinds = {"a": "row", "b": "row"}
        calls = [(1, 2, ("put", "a", 5), None), (3, 4, ("take", "b"), None), (5, 6, ("take", "a"), 5)]
        self.assertIs(is_order_of_all(kinds, calls, [0, 1, 2]), True)
        calls[1] = (3, 4, ("take", "b"), 5)
        self.assertIs(is_order_of_all(kinds, calls, [0, 1, 2]), False)

    def test_no_calls(self):
        for kinds in ({}, KINDS):
            self.assertIs(is_order_of_all(kinds, [], []), True)
            self.assertIs(is_order_of_all(kinds, [], [0]), False)

    def test_things_without_calls(self):
        kinds = dict(KINDS, c="row", d="number", A="row")
        self.assertIs(is_order_of_all(kinds, CALLS, [0, 1, 2, 3, 4]), True)

    def test_hundred_and_fifty_calls(self):
        kinds = {name: "number" for name in "abcde"}
        calls = [(step, step + 3, ("add", "abcde"[step % 5], 1), step // 5 + 1) for step in range(150)]
        with by_words.within(60):
            self.assertIs(is_order_of_all(kinds, calls, list(range(150))), True)
            self.assertIs(is_order_of_all(kinds, calls, [3, 1, 2, 0, *range(4, 150)]), True)
            self.assertIs(is_order_of_all(kinds, calls, [*range(145), 149, *range(145, 149)]), False)

    def test_every_order_of_histories(self):
        for seed in range(40):
            calls = by_words.history(seed, KINDS, 5, 40, (1, 2))
            for order in itertools.permutations(range(5)):
                told = is_order_of_all(KINDS, calls, list(order))
                self.assertIs(told, is_order_by_words(KINDS, calls, list(order)), (seed, order))


class TestOrderOfAll(unittest.TestCase):
    def assert_order(self, kinds, calls):
        found = order_of_all(kinds, calls)
        self.assertIs(type(found), tuple)
        self.assertEqual((len(found), found[0]), (2, "order"))
        self.assertIs(type(found[1]), list)
        self.assertTrue(is_order_by_words(kinds, calls, found[1]), (calls, found))
        self.assertIs(is_order_of_all(kinds, calls, found[1]), True)
        return found[1]

    def assert_none(self, kinds, calls, thing):
        found = order_of_all(kinds, calls)
        self.assertIs(type(found), tuple)
        self.assertEqual((len(found), *found[:2]), (3, "none", thing))
        numbers = calls_of(calls, thing)
        own_calls = [calls[number] for number in numbers]
        own_dead = [([numbers.index(number) for number in gone], state) for gone, state in found[2]]
        self.assertIs(shows_none(kinds[thing], own_calls, own_dead), True)
        return found[2]

    def test_an_order_that_keeps_time_across_all_things(self):
        self.assert_order(KINDS, CALLS)
        self.assert_order(KINDS, CALLS[::-1])
        # One thing after the other is not an order here, whichever comes first.
        calls = [(10 * step, 10 * step + 5, ("add", "ab"[step % 2], 1), step // 2 + 1) for step in range(10)]
        self.assertEqual(self.assert_order({"a": "number", "b": "number"}, calls), list(range(10)))
        self.assertEqual(self.assert_order({"b": "number", "a": "number"}, calls[::-1]), list(range(9, -1, -1)))

    def test_orders_that_only_the_answers_tell(self):
        calls = [
            (1, 20, ("put", "b", 5), None),
            (2, 30, ("put", "b", 6), None),
            (1, 40, ("set", "a", 7), None),
            (25, 35, ("look", "a"), 0),
            (36, 38, ("take", "b"), 6),
            (41, 45, ("look", "a"), 7),
        ]
        order = self.assert_order(KINDS, calls)
        self.assertLess(order.index(1), order.index(0))
        self.assertLess(order.index(3), order.index(2))

    def test_a_thing_without_an_order(self):
        calls = [(0, 9, ("look", "a"), 0), (1, 4, ("put", "b", 5), None), (2, 3, ("look", "a"), 0)]
        calls.append((6, 8, ("take", "b"), 6))
        self.assertEqual(self.assert_none(KINDS, calls, "b"), [([1], (5,)), ([], ())])

    def test_the_first_one_in_the_order_of_texts(self):
        looks = [(1, 2, ("look", thing), 9) for thing in ("b", "a", "Z", "ab", "_", "")]
        for many in range(1, 7):
            for chosen in itertools.combinations(looks, many):
                calls = list(chosen)
                things = [call[2][1] for call in calls]
                for kinds in ({thing: "row" for thing in things}, {thing: "number" for thing in things[::-1]}):
                    self.assert_none(kinds, calls, min(things))
        self.assert_none({"a": "row", "Z": "row"}, [looks[1], looks[2]], "Z")

    def test_the_first_one_that_has_none(self):
        calls = [(1, 2, ("look", "a"), 0), (1, 2, ("look", "c"), 7), (1, 2, ("look", "b"), 7), (3, 4, ("look", "b"), 0)]
        dead = self.assert_none({"c": "number", "b": "number", "a": "number"}, calls, "b")
        self.assertEqual(dead, [([], 0)])

    def test_dead_ends_have_the_numbers_of_the_whole_list(self):
        calls = [
            (0, 9, ("look", "a"), 0),
            (7, 9, ("take", "b"), 7),
            (0, 9, ("look", "a"), 0),
            (2, 6, ("put", "b", 6), None),
            (0, 9, ("look", "a"), 0),
            (1, 4, ("put", "b", 5), None),
        ]
        dead = self.assert_none(KINDS, calls, "b")
        told = sorted(dead, key=repr)
        self.assertEqual(told, [([3, 5], (5, 6)), ([3, 5], (6, 5)), ([3], (6,)), ([5], (5,)), ([], ())])
        for dead_end in dead:
            self.assertIs(type(dead_end), tuple)
            self.assertIs(type(dead_end[0]), list)

    def test_things_without_calls(self):
        kinds = dict(KINDS, c="row", d="number", A="row")
        self.assert_order(kinds, CALLS)
        self.assert_none(kinds, [*CALLS, (20, 21, ("look", "d"), 7)], "d")

    def test_no_calls(self):
        self.assertEqual(order_of_all({}, []), ("order", []))
        self.assertEqual(order_of_all(KINDS, []), ("order", []))

    def test_calls_that_are_alike(self):
        calls = [(1, 9, ("put", "b", 5), None), (1, 9, ("add", "a", 2), 2), (1, 9, ("take", "b"), 5)]
        self.assert_order(KINDS, calls + calls[::2])
        self.assert_none(KINDS, calls + calls, "a")

    def test_there_is_one_just_where_each_thing_alone_has_one(self):
        kinds = {"a": "row", "b": "number", "c": "row"}
        seen = {"order": 0, "none": 0}
        for seed in range(200):
            calls = by_words.history(seed, kinds, 12, (15, 40, 70)[seed % 3], (1, 2))
            if seed % 2:
                calls[0] = calls[0][:3] + (calls[1][3],)
            without = []
            for thing, kind in kinds.items():
                if order_of(kind, [calls[number] for number in calls_of(calls, thing)])[0] == "none":
                    without.append(thing)
            if without:
                self.assert_none(kinds, calls, min(without))
            else:
                self.assert_order(kinds, calls)
            seen["none" if without else "order"] += 1
        self.assertGreater(min(seen.values()), 40)

    def test_hundred_and_fifty_calls(self):
        kinds = {name: ("row", "number")[place % 2] for place, name in enumerate("abcdefghij")}
        for seed in range(6):
            calls = by_words.history(seed, kinds, 150, 60)
            with by_words.within(60):
                self.assert_order(kinds, calls)
                self.assert_none(dict(kinds, z="row"), [*calls, (1, 2, ("look", "z"), 7)], "z")


class TestRefusals(unittest.TestCase):
    def refused(self, error, kinds, calls):
        with self.subTest(kinds=kinds, calls=calls):
            self.assertRaises(error, is_order_of_all, kinds, calls, list(range(len(calls))))
            self.assertRaises(error, is_order_of_all, kinds, calls, [-1])
            self.assertRaises(error, order_of_all, kinds, calls)

    def test_a_thing_that_is_not_there(self):
        for place in range(6):
            for thing in ("c", "", "A", "aa"):
                call = (1, 2, ("look", thing), 0)
                self.refused(NoThing, KINDS, CALLS[:place] + [call] + CALLS[place:])
        self.refused(NoThing, {}, CALLS)
        self.refused(NoThing, {"a": "number"}, CALLS)
        self.refused(NoThing, {}, [(1, 2, ("look", "a"), 0)])

    def test_a_thing_that_is_not_there_is_refused_ahead_of_all(self):
        strange = (1, 2, ("look", "c"), 0)
        for bad in ((2, 1, ("look", "a"), 0), (1, 2, ("take", "a"), 0), (1, 2, ("look", "a", 5), 0)):
            self.refused(NoThing, KINDS, [bad, strange])
            self.refused(NoThing, KINDS, [strange, bad])
            self.refused(NoThing, {"a": "text"}, [bad, strange])
        self.refused(NoThing, {"a": "text", "b": "row"}, [strange])
        self.refused(NoThing, KINDS, [(2, 1, ("jump", "c"), 0)])

    def test_a_kind_that_is_none(self):
        for kind in ("", "Row", "numbers", "text"):
            self.refused(NoKind, {"a": kind}, [])
            self.refused(NoKind, {"a": "row", "b": kind}, [])
            self.refused(NoKind, {"a": kind, "b": "row"}, [(1, 2, ("look", "b"), None)])
            self.refused(NoKind, dict(KINDS, c=kind), CALLS)
            self.refused(NoKind, {"a": kind}, [(1, 2, ("look", "a"), 0)])

    def test_a_kind_that_is_none_is_refused_ahead_of_its_bad_calls(self):
        for bad in ((2, 1, ("look", "a"), 0), (1, 2, ("jump", "a"), 0), (1, 2, ("look", "a", 5), 0)):
            self.refused(NoKind, {"a": "text"}, [bad])
            self.refused(NoKind, {"a": "text", "b": "row"}, [*CALLS[:1], bad])

    def test_bad_calls(self):
        deeds = [("put", "a", 5), ("take", "a"), ("jump", "a"), ("set", "a"), ("add", "a"), ("look", "a", 5)]
        deeds += [("set", "b", 5), ("add", "b", 5), ("put", "b"), ("take", "b", 5), ("look", "b", 5)]
        bad = [(1, 2, deed, None) for deed in deeds]
        bad += [(2, 2, ("look", "a"), 0), (3, 2, ("look", "a"), 0), (2, 2, ("take", "b"), 0), (3, 2, ("take", "b"), 0)]
        for call in bad:
            for place in (0, 2, 5):
                self.refused(BadCall, KINDS, CALLS[:place] + [call] + CALLS[place:])

    def test_bad_calls_where_another_thing_has_no_order(self):
        self.refused(BadCall, KINDS, [(1, 2, ("look", "a"), 7), (2, 1, ("look", "b"), None)])
        self.refused(NoKind, {"a": "number", "b": "text"}, [(1, 2, ("look", "a"), 7)])

    def test_thing_by_thing_in_the_order_of_texts(self):
        bad = {thing: (2, 1, ("look", thing), 0) for thing in ("a", "b", "Z")}
        self.refused(BadCall, {"a": "row", "b": "text"}, [bad["a"]])
        self.refused(BadCall, {"b": "text", "a": "row"}, [bad["b"], bad["a"]])
        self.refused(NoKind, {"a": "text", "b": "row"}, [bad["b"]])
        self.refused(NoKind, {"b": "row", "a": "text"}, [bad["b"], bad["a"]])
        self.refused(BadCall, {"a": "text", "Z": "row"}, [bad["Z"]])
        self.refused(BadCall, {"a": "text", "Z": "row"}, [bad["a"], bad["Z"]])
        self.refused(NoKind, {"a": "row", "Z": "text"}, [bad["a"]])

    def test_a_deed_without_a_thing(self):
        self.refused(NoThing, KINDS, [*CALLS, (1, 2, ("look",), 0)])
        self.assertEqual(calls_of([(1, 2, ("look",), 0), (1, 2, ("look", "a"), 0)], "a"), [1])


class TestInterface(unittest.TestCase):
    def test_what_is_handed_in_is_not_changed(self):
        calls = list(CALLS)
        wrong = [*CALLS, (20, 21, ("look", "b"), 7)]
        kinds = dict(KINDS, Z="row")
        order = [0, 1, 2, 3, 4]
        before = copy.deepcopy((calls, wrong, kinds, list(kinds), order))
        calls_of(calls, "a").append(99)
        is_order_of_all(kinds, calls, order)
        is_order_of_all(kinds, calls, order[::-1])
        order_of_all(kinds, calls)[1].append(99)
        order_of_all(kinds, wrong)[2][0][0].append(99)
        self.assertEqual((calls, wrong, kinds, list(kinds), order), before)

    def test_the_calls_of_one_thing_alone(self):
        calls = by_words.history(3, {"a": "row"}, 9, 40)
        order = order_of_all({"a": "row"}, calls)[1]
        self.assertIs(is_order("row", calls, order), True)
        self.assertIs(is_order_of_all({"a": "row"}, calls, order_of("row", calls)[1]), True)

    def test_argument_names(self):
        self.assertEqual(calls_of(calls=[], thing="a"), [])
        self.assertIs(is_order_of_all(kinds={}, calls=[], order=[]), True)
        self.assertEqual(order_of_all(kinds={}, calls=[]), ("order", []))


if __name__ == "__main__":
    unittest.main()
