"""Points 1 to 3: names, numbers, errors, and values that are handed in and out."""

import unittest

from docketloom import errors
from docketloom.lines import is_word, line_of, read_sheet, words_of, write_sheet
from docketloom.names import is_name, is_names, is_number, is_same
from docketloom.parts import dealt, is_fraction
from odd import ODD, mutants, same


class Errors(unittest.TestCase):
    def test_five_classes_directly_below_docket_error(self):
        classes = [errors.OutOfRange, errors.Malformed, errors.NotThere, errors.Refused, errors.TooMuch]
        self.assertEqual(errors.DocketError.__bases__, (ValueError,))
        for one in classes:
            self.assertEqual(one.__bases__, (errors.DocketError,))
            with self.assertRaises(errors.DocketError):
                raise one("a text")
            for other in classes:
                self.assertEqual(issubclass(one, other), one is other)
            self.assertEqual(str(one("a text")), "a text")


class Names(unittest.TestCase):
    def test_names(self):
        for good in ("a", "z", "court", "a" * 16):
            self.assertIs(is_name(good), True, good)
        for bad in ("", "a" * 17, "A", "a1", "a b", " a", "a\n", "\u00e4", "\u0430", "a-b", "1"):
            self.assertIs(is_name(bad), False, bad)

    def test_numbers(self):
        self.assertIs(is_number(3, 3, 5), True)
        self.assertIs(is_number(5, 3, 5), True)
        self.assertIs(is_number(2, 3, 5), False)
        self.assertIs(is_number(6, 3, 5), False)
        self.assertIs(is_number(-4, -4, -4), True)
        self.assertIs(is_number(True, 0, 5), False)
        self.assertIs(is_number(False, 0, 5), False)
        self.assertIs(is_number(3.0, 3, 5), False)
        self.assertIs(is_number("3", 3, 5), False)

    def test_names_in_tuples(self):
        self.assertIs(is_names((), 0, 2), True)
        self.assertIs(is_names((), 1, 2), False)
        self.assertIs(is_names(("a", "b"), 1, 2), True)
        self.assertIs(is_names(("a", "b"), 2, 2), True)
        self.assertIs(is_names(("a", "b", "c"), 1, 2), False)
        self.assertIs(is_names(("b", "a"), 0, 2), False)
        self.assertIs(is_names(("a", "a"), 0, 2), False)
        self.assertIs(is_names(["a", "b"], 0, 2), False)
        self.assertIs(is_names("ab", 0, 2), False)
        self.assertIs(is_names(("a", None), 0, 2), False)
        self.assertIs(is_names(("a", "B"), 0, 2), False)

    def test_values_of_every_kind(self):
        for value in ODD:
            for answer in (is_name(value), is_number(value, 0, 9), is_names(value, 0, 9), is_fraction(value),
                           is_word(value)):
                self.assertIn(answer, (True, False))
        self.assertEqual([value for value in ODD if is_name(value)], ["a", "ann"])
        self.assertEqual([value for value in ODD if is_number(value, -1, 9)], [0, 1, -1, 2, 7])
        self.assertEqual([value for value in ODD if is_names(value, 0, 9)], [(), ("ann",)])

    def test_same_is_strict(self):
        told = (1, "a", (0, None, ()), 7)
        self.assertIs(is_same((1, "a", (0, None, ()), 7), told), True)
        for value in mutants(told):
            self.assertIs(is_same(value, told), same(value, told), value)
        self.assertIs(is_same(None, None), True)
        self.assertIs(is_same(True, 1), False)


class HandedInAndOut(unittest.TestCase):
    def test_lists_stay_as_they_were(self):
        words = ["a", "b"]
        line_of(words)
        self.assertEqual(words, ["a", "b"])
        weights = [3, 1, 2]
        dealt(10, weights)
        self.assertEqual(weights, [3, 1, 2])
        rows = [["a"], ["b", "c"]]
        write_sheet(rows)
        self.assertEqual(rows, [["a"], ["b", "c"]])

    def test_answers_may_be_changed(self):
        words_of("a b").append("c")
        self.assertEqual(words_of("a b"), ["a", "b"])
        good, bad = read_sheet("a b\n\n")
        good[0][1].append("x")
        good.clear()
        bad.clear()
        self.assertEqual(read_sheet("a b\n\n"), ([(1, ["a", "b"])], [(2, "blank")]))
        dealt(5, [1, 1]).clear()
        self.assertEqual(dealt(5, [1, 1]), [3, 2])


if __name__ == "__main__":
    unittest.main()
