import copy
import itertools
import unittest

from callorder.errors import BadCall, NoLine
from callorder.lines import read, shown

BIG = 10**100 - 1
WITH_VALUE = ("put", "set", "add")
WITHOUT_VALUE = ("take", "look")
NUMBERS = (0, 1, -1, 9, 10, -10, 907, -2000, BIG, -BIG, 10**99, -(10**99), 10**130)


class TestWrittenAndReadBack(unittest.TestCase):
    def assert_line(self, line, call):
        self.assertEqual(shown([call]), [line])
        self.assertEqual(read([line]), [call])

    def test_lines_of_the_document(self):
        self.assert_line("3 8 put a 5 gives none", (3, 8, ("put", "a", 5), None))
        self.assert_line("4 6 look n gives -2", (4, 6, ("look", "n"), -2))

    def test_every_word_with_and_without_an_answer(self):
        for word in WITH_VALUE:
            self.assert_line(f"1 2 {word} row -7 gives none", (1, 2, (word, "row", -7), None))
            self.assert_line(f"1 2 {word} row -7 gives 5", (1, 2, (word, "row", -7), 5))
            self.assert_line(f"1 2 {word} row 0 gives 0", (1, 2, (word, "row", 0), 0))
        for word in WITHOUT_VALUE:
            self.assert_line(f"1 2 {word} row gives none", (1, 2, (word, "row"), None))
            self.assert_line(f"1 2 {word} row gives 5", (1, 2, (word, "row"), 5))
            self.assert_line(f"1 2 {word} row gives 0", (1, 2, (word, "row"), 0))

    def test_numbers(self):
        for number in NUMBERS:
            self.assert_line(f"1 2 put a {number} gives none", (1, 2, ("put", "a", number), None))
            self.assert_line(f"1 2 add n 1 gives {number}", (1, 2, ("add", "n", 1), number))
            self.assert_line(f"{number} {BIG**2} look a gives none", (number, BIG**2, ("look", "a"), None))
            self.assert_line(f"-{BIG**2} {number} look a gives 0", (-(BIG**2), number, ("look", "a"), 0))

    def test_things(self):
        for thing in ("a", "z", "abcdefghijklmnopqrstuvwxyz", "put", "gives", "none", "look", "x" * 300):
            self.assert_line(f"1 2 take {thing} gives none", (1, 2, ("take", thing), None))
            self.assert_line(f"1 2 set {thing} 3 gives none", (1, 2, ("set", thing, 3), None))

    def test_times(self):
        for times in ((0, 1), (-1, 0), (-2, -1), (9, 10), (-10, 9), (BIG, BIG + 1), (-BIG - 1, -BIG)):
            self.assert_line(f"{times[0]} {times[1]} look a gives none", (*times, ("look", "a"), None))

    def test_many_lines_in_their_order(self):
        calls = [(step, 2 * step + 1, ("add", "ab"[step % 2] * 3, -step), step // 2) for step in range(150)]
        lines = shown(calls)
        self.assertEqual(len(lines), 150)
        self.assertEqual(lines[3], "3 7 add bbb -3 gives 1")
        self.assertEqual(read(lines), calls)
        self.assertEqual(read(lines[::-1]), calls[::-1])
        self.assertEqual(read(lines + lines), calls + calls)

    def test_no_lines(self):
        self.assertEqual(shown([]), [])
        self.assertEqual(read([]), [])

    def test_kinds_of_what_is_told(self):
        told = read(["3 8 put a 5 gives none"])
        self.assertIs(type(told), list)
        self.assertIs(type(told[0]), tuple)
        self.assertIs(type(told[0][2]), tuple)
        self.assertIs(type(shown(told)), list)
        self.assertIs(type(shown(told)[0]), str)


class TestNoLine(unittest.TestCase):
    good = ("3 8 put a 5 gives none", "4 6 look n gives -2", "-4 -3 add row -10 gives 100")

    def refused(self, line):
        with self.subTest(line=line):
            self.assertRaises(NoLine, read, [line])
            self.assertRaises(NoLine, read, ["3 8 put a 5 gives none", line])
            self.assertRaises(NoLine, read, [line, "3 8 put a 5 gives none"])

    def test_the_good_ones_are_read(self):
        self.assertEqual(len(read(list(self.good))), 3)

    def test_two_blanks(self):
        for line in self.good:
            for place in [place for place, sign in enumerate(line) if sign == " "]:
                self.refused(line[:place] + " " + line[place:])

    def test_other_signs_between(self):
        for line in self.good:
            for place in [place for place, sign in enumerate(line) if sign == " "]:
                for between in ("", "\t", "\n", "_", "\u00a0", "\u2003", ",", "\x0b", "\x1f", " \t", "\t "):
                    self.refused(line[:place] + between + line[place + 1 :])

    def test_signs_at_either_end(self):
        for line in self.good:
            for sign in (" ", "  ", "\n", "\r\n", "\r", "\t", "\x0b", "\x0c", "\x1c", "\x85", "\u2028", "\x00", "."):
                self.refused(sign + line)
                self.refused(line + sign)

    def test_empty_lines(self):
        for line in ("", " ", "\n", "      ", "none", "gives", "gives none"):
            self.refused(line)

    def test_numbers_that_are_written_otherwise(self):
        written = ["", "-", "+1", "-0", "+0", "00", "01", "007", "-01", "--1", "- 1", "1-", "1_0", "0x1", "1.0", "1e3"]
        written += ["one", "None", "NONE", "none ", "nonee", "a", "1a", "a1", "1,000", "True", "()", "0b1", "1\n"]
        written += ["\u0661", "\u00b2", "\uff11", "\u0967", "-\u0661", "1\u0660", "\u22121"]
        written += ["0" * 100, "-" + "0" * 5, "0" + "9" * 100]
        for number in written:
            self.refused(f"{number} 88888 look a gives none")
            self.refused(f"-88888 {number} look a gives none")
            self.refused(f"1 2 put a {number} gives none")
            self.refused(f"1 2 look a gives {number}")

    def test_none_stands_for_an_answer_alone(self):
        self.refused("none 2 look a gives none")
        self.refused("1 none look a gives none")
        self.refused("1 2 put a none gives none")

    def test_missing_or_second_values(self):
        for word in WITH_VALUE:
            self.refused(f"1 2 {word} a gives none")
            self.refused(f"1 2 {word} a 5 6 gives none")
            self.refused(f"1 2 {word} 5 gives none")
            self.refused(f"1 2 {word} 5 a gives none")
        for word in WITHOUT_VALUE:
            self.refused(f"1 2 {word} a 5 gives none")
            self.refused(f"1 2 {word} a b gives none")
            self.refused(f"1 2 {word} a 5 6 gives none")
            self.refused(f"1 2 {word} gives none")

    def test_other_words(self):
        words = ["", "Put", "PUT", "looks", "loo", "pop", "gives", "row", "number", "5", "put\n", "p\u0443t"]
        for word in words:
            self.refused(f"1 2 {word} a gives none")
            self.refused(f"1 2 {word} a 5 gives none")

    def test_other_things(self):
        things = ["", "A", "aB", "a1", "1a", "1", "_", "a_b", "a-b", "a.", "a\n"]
        things += ["\u00e4", "\u0430", "\u00df", "\u017f", "a\u0301"]
        for thing in things:
            self.refused(f"1 2 look {thing} gives none")
            self.refused(f"1 2 put {thing} 5 gives none")

    def test_missing_parts(self):
        for line in self.good:
            parts = line.split(" ")
            for place in range(len(parts)):
                self.refused(" ".join(parts[:place] + parts[place + 1 :]))
            for many in range(len(parts)):
                self.refused(" ".join(parts[:many]))

    def test_parts_twice(self):
        for line in self.good:
            parts = line.split(" ")
            for place in range(len(parts)):
                self.refused(" ".join(parts[: place + 1] + parts[place:]))
            self.refused(line + " " + line)
            self.refused(line + "\n" + line)

    def test_parts_in_another_order(self):
        parts = "1 2 look a gives 3".split(" ")
        for other in itertools.permutations(parts):
            if other[2:5] != ("look", "a", "gives") or int(other[0]) >= int(other[1]):
                self.refused(" ".join(other))

    def test_other_words_for_gives(self):
        for word in ("", "Gives", "give", "given", "gives:", "=", "->", "none"):
            self.refused(f"1 2 look a {word} none")
            self.refused(f"1 2 put a 5 {word} none")

    def test_end_that_is_not_greater_than_its_beginning(self):
        for times in ("3 3", "4 3", "0 0", "0 -1", "-1 -1", "-1 -2", "10 9", f"{BIG} {BIG}", f"{BIG} {-BIG}"):
            self.refused(f"{times} look a gives none")
            self.refused(f"{times} put a 5 gives none")


class TestShownRefusals(unittest.TestCase):
    good = (3, 8, ("put", "a", 5), None)

    def refused(self, error, call):
        self.assertRaises(error, shown, [call])
        self.assertRaises(error, shown, [self.good, call])
        self.assertRaises(error, shown, [call, self.good])

    def test_call_that_does_not_begin_ahead_of_its_end(self):
        for times in ((3, 3), (4, 3), (0, -1), (BIG, -BIG)):
            self.refused(BadCall, (*times, ("look", "a"), None))

    def test_deeds_that_no_kind_can_do(self):
        for deed in (("jump", "a"), ("put", "a"), ("look", "a", 5), ("set", "a", 5, 6), ("look",), ("put", "a 5")):
            self.refused(BadCall, (1, 2, deed, None))

    def test_things_that_can_not_stand_in_a_line(self):
        for thing in ("", "A", "a1", "two words", "a\n", "\u00e4", "a gives", " "):
            self.refused(NoLine, (1, 2, ("look", thing), None))


class TestInterface(unittest.TestCase):
    def test_what_is_handed_in_is_not_changed(self):
        calls = [(3, 8, ("put", "a", 5), None), (4, 6, ("look", "n"), -2)]
        lines = ["3 8 put a 5 gives none", "4 6 look n gives -2"]
        before = copy.deepcopy((calls, lines))
        shown(calls).append("")
        read(lines).append(None)
        self.assertEqual((calls, lines), before)

    def test_argument_names(self):
        self.assertEqual(shown(calls=[]), [])
        self.assertEqual(read(lines=[]), [])


if __name__ == "__main__":
    unittest.main()
