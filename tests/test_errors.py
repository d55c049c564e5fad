import unittest

from callorder.errors import BadCall, NoKind, NoLine, NoThing, OrderError
from callorder.kinds import check_deed, start
from callorder.times import ahead

REFUSALS = (NoKind, NoThing, BadCall, NoLine)


class TestErrors(unittest.TestCase):
    def test_order_error_is_a_value_error(self):
        self.assertEqual(OrderError.__bases__, (ValueError,))

    def test_each_refusal_stands_straight_under_order_error(self):
        for refusal in REFUSALS:
            self.assertEqual(refusal.__bases__, (OrderError,))

    def test_names(self):
        names = [refusal.__name__ for refusal in REFUSALS]
        self.assertEqual(names, ["NoKind", "NoThing", "BadCall", "NoLine"])

    def test_each_is_taken_as_any_refusal_and_as_a_value_error(self):
        for refusal in REFUSALS:
            for taken in (refusal, OrderError, ValueError):
                with self.assertRaises(taken):
                    raise refusal("some words")

    def test_none_is_taken_as_another(self):
        for refusal in REFUSALS:
            for other in REFUSALS:
                if other is not refusal:
                    self.assertNotIsInstance(refusal("some words"), other)

    def test_what_the_program_refuses_is_an_order_error(self):
        bad_call = (2, 1, ("look", "a"), None)
        for refused in (
            lambda: start("heap"),
            lambda: check_deed("heap", ("look", "a")),
            lambda: check_deed("row", ("jump", "a")),
            lambda: ahead(bad_call, bad_call),
        ):
            self.assertRaises(OrderError, refused)
            self.assertRaises(ValueError, refused)


if __name__ == "__main__":
    unittest.main()
