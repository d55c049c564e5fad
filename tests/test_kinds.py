import copy
import unittest

from callorder.errors import BadCall, NoKind
from callorder.kinds import answers, check_deed, start

# The words that each kind has, with and without a value.
WITH_VALUE = {"row": ("put",), "number": ("set", "add")}
WITHOUT_VALUE = {"row": ("take", "look"), "number": ("look",)}
OTHER_WORDS = {"row": ("set", "add"), "number": ("put", "take")}
NO_WORDS = ("", "Put", "LOOK", "put ", " take", "looks", "loo", "pop", "row", "number", "gives", "none")
NO_KINDS = ("", "Row", "ROW", "rows", "ro", " row", "row ", "Number", "numbers", "num", "text", "put", "a")
KINDS = ("row", "number")

HUNDRED_NINES = 10**100 - 1


class TestStart(unittest.TestCase):
    def test_row_is_empty(self):
        self.assertEqual(start("row"), ())
        self.assertIs(type(start("row")), tuple)

    def test_number_is_nought(self):
        self.assertEqual(start("number"), 0)
        self.assertIs(type(start("number")), int)

    def test_another_text_is_refused(self):
        for kind in NO_KINDS:
            with self.subTest(kind=kind):
                self.assertRaises(NoKind, start, kind)

    def test_argument_name(self):
        self.assertEqual(start(kind="row"), ())


class TestCheckDeed(unittest.TestCase):
    def assert_bad(self, kind, deed):
        with self.subTest(kind=kind, deed=deed):
            self.assertRaises(BadCall, check_deed, kind, deed)
            self.assertRaises(BadCall, answers, kind, [deed])

    def test_deeds_of_the_kind(self):
        for kind in KINDS:
            for thing in ("a", "", "two words", "put"):
                for word in WITHOUT_VALUE[kind]:
                    self.assertIsNone(check_deed(kind, (word, thing)))
                for word in WITH_VALUE[kind]:
                    for value in (0, 5, -5, HUNDRED_NINES, -HUNDRED_NINES):
                        self.assertIsNone(check_deed(kind, (word, thing, value)))

    def test_words_that_the_kind_has_not(self):
        for kind in KINDS:
            for word in OTHER_WORDS[kind] + NO_WORDS:
                self.assert_bad(kind, (word,))
                self.assert_bad(kind, (word, "a"))
                self.assert_bad(kind, (word, "a", 1))

    def test_value_where_there_should_be_none(self):
        for kind in KINDS:
            for word in WITHOUT_VALUE[kind]:
                for value in (0, 1, -1, HUNDRED_NINES, None):
                    self.assert_bad(kind, (word, "a", value))

    def test_no_value_where_there_should_be_one(self):
        for kind in KINDS:
            for word in WITH_VALUE[kind]:
                self.assert_bad(kind, (word, "a"))
                self.assert_bad(kind, (word, 5))

    def test_one_part_too_many(self):
        for kind in KINDS:
            for word in WITH_VALUE[kind] + WITHOUT_VALUE[kind]:
                self.assert_bad(kind, (word, "a", 1, 2))
                self.assert_bad(kind, (word, "a", 1, None))

    def test_word_alone(self):
        for kind in KINDS:
            for word in WITH_VALUE[kind] + WITHOUT_VALUE[kind]:
                self.assert_bad(kind, (word,))

    def test_what_is_no_whole_number_is_no_value(self):
        for kind in KINDS:
            for word in WITH_VALUE[kind]:
                for value in (None, "5", "", (), (5,), True, False):
                    self.assert_bad(kind, (word, "a", value))

    def test_what_is_no_text_is_no_thing(self):
        for kind in KINDS:
            for thing in (5, None, ("a",)):
                for word in WITHOUT_VALUE[kind]:
                    self.assert_bad(kind, (word, thing))
                for word in WITH_VALUE[kind]:
                    self.assert_bad(kind, (word, thing, 5))

    def test_very_long_value_is_refused_the_same_way(self):
        # Python can't write a number of so many figures, so no words of an error may hold it.
        self.assert_bad("row", ("take", "a", 10**5000))
        self.assert_bad("number", ("put", "a", 10**5000))

    def test_no_kind_comes_ahead_of_bad_call(self):
        for kind in NO_KINDS:
            for deed in (("look", "a"), ("put", "a", 1), ("jump", "a"), ("put", "a"), ("look",), ("look", "a", 1, 2)):
                with self.subTest(kind=kind, deed=deed):
                    self.assertRaises(NoKind, check_deed, kind, deed)
                    self.assertRaises(NoKind, answers, kind, [deed])

    def test_argument_names(self):
        self.assertIsNone(check_deed(kind="row", deed=("look", "a")))


class TestRowAnswers(unittest.TestCase):
    def assert_row(self, deeds, expected):
        self.assertEqual(answers("row", deeds), expected)

    def test_no_deeds(self):
        self.assert_row([], [])

    def test_put_is_answered_with_none(self):
        self.assert_row([("put", "a", 5)], [None])

    def test_empty_row(self):
        self.assert_row([("look", "a")], [None])
        self.assert_row([("take", "a")], [None])

    def test_taking_from_an_empty_row_changes_nothing(self):
        deeds = [("take", "a"), ("take", "a"), ("put", "a", 5), ("take", "a"), ("take", "a"), ("look", "a")]
        self.assert_row(deeds, [None, None, None, 5, None, None])

    def test_values_are_taken_in_the_order_of_putting(self):
        deeds = [("put", "a", 3), ("put", "a", 1), ("put", "a", 2)] + [("take", "a")] * 4
        self.assert_row(deeds, [None, None, None, 3, 1, 2, None])

    def test_putting_between_taking(self):
        deeds = [("put", "a", 7), ("put", "a", 8), ("take", "a"), ("put", "a", 9), ("take", "a"), ("take", "a")]
        self.assert_row(deeds, [None, None, 7, None, 8, 9])

    def test_same_value_twice_stays_twice(self):
        deeds = [("put", "a", 4), ("put", "a", 4), ("take", "a"), ("take", "a"), ("take", "a")]
        self.assert_row(deeds, [None, None, 4, 4, None])

    def test_looking_tells_the_first_and_changes_nothing(self):
        deeds = [("put", "a", 1), ("put", "a", 2), ("look", "a"), ("look", "a"), ("take", "a"), ("look", "a")]
        self.assert_row(deeds + [("take", "a"), ("look", "a")], [None, None, 1, 1, 1, 2, 2, None])

    def test_nought_is_a_value_and_not_none(self):
        deeds = [("put", "a", 0), ("look", "a"), ("take", "a"), ("take", "a")]
        given = answers("row", deeds)
        self.assertEqual(given, [None, 0, 0, None])

    def test_values_below_nought(self):
        self.assert_row([("put", "a", -3), ("look", "a"), ("take", "a")], [None, -3, -3])

    def test_name_of_the_thing_is_not_asked(self):
        self.assert_row([("put", "a", 5), ("take", "b")], [None, 5])


class TestNumberAnswers(unittest.TestCase):
    def assert_number(self, deeds, expected):
        self.assertEqual(answers("number", deeds), expected)

    def test_no_deeds(self):
        self.assert_number([], [])

    def test_looking_at_the_beginning(self):
        self.assert_number([("look", "n")], [0])

    def test_set_is_answered_with_none(self):
        self.assert_number([("set", "n", 5), ("look", "n")], [None, 5])

    def test_set_forgets_what_was(self):
        deeds = [("add", "n", 9), ("set", "n", -2), ("look", "n"), ("set", "n", 0), ("look", "n")]
        self.assert_number(deeds, [9, None, -2, None, 0])

    def test_add_is_answered_with_the_number_behind(self):
        self.assert_number([("add", "n", 4), ("add", "n", 3), ("look", "n")], [4, 7, 7])

    def test_add_below_nought(self):
        self.assert_number([("add", "n", -4), ("add", "n", 1), ("add", "n", 3), ("look", "n")], [-4, -3, 0, 0])

    def test_add_nought(self):
        self.assert_number([("set", "n", 6), ("add", "n", 0), ("look", "n")], [None, 6, 6])

    def test_add_behind_set(self):
        self.assert_number([("set", "n", 10), ("add", "n", -12), ("look", "n")], [None, -2, -2])

    def test_looking_changes_nothing(self):
        self.assert_number([("set", "n", 5), ("look", "n"), ("look", "n"), ("add", "n", 1)], [None, 5, 5, 6])

    def test_name_of_the_thing_is_not_asked(self):
        self.assert_number([("set", "n", 5), ("look", "m")], [None, 5])


class TestAnswersAsAWhole(unittest.TestCase):
    def test_no_kind_without_deeds(self):
        for kind in NO_KINDS:
            self.assertRaises(NoKind, answers, kind, [])

    def test_bad_deed_anywhere_is_refused(self):
        good = [("look", "a")] * 3
        for kind in KINDS:
            for place in range(4):
                deeds = good[:place] + [("jump", "a")] + good[place:]
                self.assertRaises(BadCall, answers, kind, deeds)

    def test_a_list_is_told(self):
        self.assertIs(type(answers("row", [("look", "a")])), list)

    def test_each_telling_begins_anew(self):
        for kind, deeds, expected in (
            ("row", [("put", "a", 1), ("look", "a")], [None, 1]),
            ("number", [("add", "a", 1), ("look", "a")], [1, 1]),
        ):
            answers(kind, deeds).append("more")
            self.assertEqual(answers(kind, deeds), expected)
        self.assertEqual((start("row"), start("number")), ((), 0))

    def test_what_is_handed_in_is_not_changed(self):
        for kind, deeds in (
            ("row", [("put", "a", 2), ("put", "a", 1), ("take", "a"), ("look", "a")]),
            ("number", [("set", "a", 2), ("add", "a", 1), ("look", "a")]),
            ("row", [("put", "a", 2), ("jump", "a")]),
        ):
            before = copy.deepcopy(deeds)
            try:
                answers(kind, deeds)
            except BadCall:
                pass
            self.assertEqual(deeds, before)

    def test_hundred_figures(self):
        big = HUNDRED_NINES
        self.assertEqual(answers("number", [("set", "n", big), ("add", "n", 1)]), [None, 10**100])
        self.assertEqual(answers("number", [("set", "n", -big), ("add", "n", big), ("look", "n")]), [None, 0, 0])
        row = [("put", "a", big), ("put", "a", big - 1), ("take", "a"), ("take", "a")]
        self.assertEqual(answers("row", row), [None, None, big, big - 1])

    def test_beyond_a_hundred_figures(self):
        big = 10**130
        self.assertEqual(answers("number", [("add", "n", big), ("add", "n", 1)]), [big, big + 1])
        self.assertEqual(answers("row", [("put", "a", -big), ("take", "a")]), [None, -big])

    def test_hundred_and_fifty_deeds_and_beyond(self):
        for half in (75, 150):
            values = list(range(half))
            puts = [("put", "a", value) for value in values]
            self.assertEqual(answers("row", puts + [("take", "a")] * half), [None] * half + values)
            adds = [("add", "n", 1)] * (2 * half)
            self.assertEqual(answers("number", adds), list(range(1, 2 * half + 1)))

    def test_argument_names(self):
        self.assertEqual(answers(kind="number", deeds=[("look", "n")]), [0])


if __name__ == "__main__":
    unittest.main()
