"""Points 8 and 9: words, lines, number words, sheets."""

import random
import unittest

from docketloom.errors import Malformed, OutOfRange, Refused, TooMuch
from docketloom.lines import is_word, line_of, number_of, number_word, read_sheet, words_of, write_sheet
from odd import ODD, mutants

SIGNS = "abcdefghijklmnopqrstuvwxyz0123456789-/.,:+=#_"


class Words(unittest.TestCase):
    def test_signs(self):
        for code in range(0, 0x250):
            self.assertIs(is_word(chr(code)), chr(code) in SIGNS, code)

    def test_lengths(self):
        self.assertIs(is_word("a" * 40), True)
        self.assertIs(is_word("a" * 41), False)
        self.assertIs(is_word(""), False)
        self.assertIs(is_word(SIGNS[:40]), True)

    def test_any_kind(self):
        for value in mutants("ab"):
            self.assertIn(is_word(value), (True, False))
        self.assertEqual([value for value in ODD if is_word(value)], ["a", "ann", "a" * 17])


class Lines(unittest.TestCase):
    def test_line_of(self):
        self.assertEqual(line_of(["a"]), "a")
        self.assertEqual(line_of(["a", "-1", "#x"]), "a -1 #x")
        self.assertEqual(line_of(["a"] * 20), " ".join(["a"] * 20))
        self.assertEqual(line_of(["a" * 40] * 20), " ".join(["a" * 40] * 20))

    def test_no_line_of(self):
        for words in ([], ["a"] * 21, ["a" * 41], [""], ["a b"], ["a", ""], ["A"], ["a\n"]):
            with self.assertRaises(Malformed, msg=words):
                line_of(words)
        for value in ODD:
            if not is_word(value):
                with self.assertRaises(Malformed):
                    line_of(["a", value])

    def test_words_of(self):
        self.assertEqual(words_of("a"), ["a"])
        self.assertEqual(words_of("a b c"), ["a", "b", "c"])
        self.assertEqual(len(words_of(" ".join(["a"] * 20))), 20)
        for text in ("", " ", "a ", " a", "a  b", "a\tb", "a\n", "A", " ".join(["a"] * 21), "a " + "b" * 41):
            with self.assertRaises(Malformed, msg=text):
                words_of(text)

    def test_both_ways(self):
        dice = random.Random(8)
        for _ in range(200):
            words = ["".join(dice.choices(SIGNS, k=dice.randint(1, 40))) for _ in range(dice.randint(1, 20))]
            self.assertEqual(words_of(line_of(words)), words)


class NumberWords(unittest.TestCase):
    def test_both_ways(self):
        for number in (0, 7, -12, 10 ** 20 - 1, 1 - 10 ** 20, 10 ** 19, -1):
            self.assertEqual(number_word(number), str(number))
            self.assertEqual(number_of(number_word(number)), number)
        self.assertEqual(len(number_word(1 - 10 ** 20)), 21)

    def test_too_long(self):
        for number in (10 ** 20, -10 ** 20, 10 ** 5000, -10 ** 5000):
            with self.assertRaises(OutOfRange):
                number_word(number)

    def test_no_number_word(self):
        for text in ("", "-", "-0", "07", "+1", " 1", "1 ", "1.0", "--1", "1" + "0" * 20, "-1" + "0" * 20, "a", "1a",
                     "\u0661", "\u00b2", "00", "-01", "1_0", "1\n", "9" * 5000, "1-"):
            with self.assertRaises(Malformed, msg=text):
                number_of(text)


class Sheets(unittest.TestCase):
    def test_document(self):
        self.assertEqual(
            read_sheet("file a 12\n\n# a remark\nfile  b 7\nhear a"),
            ([(1, ["file", "a", "12"]), (5, ["hear", "a"])], [(2, "blank"), (4, "space")]))

    def test_rows(self):
        self.assertEqual(read_sheet(""), ([], []))
        self.assertEqual(read_sheet("a"), ([(1, ["a"])], []))
        self.assertEqual(read_sheet("a\n"), ([(1, ["a"])], []))
        self.assertEqual(read_sheet("\n"), ([], [(1, "blank")]))
        self.assertEqual(read_sheet("\n\n"), ([], [(1, "blank"), (2, "blank")]))
        self.assertEqual(read_sheet("a\n\n\nb\n\n"), ([(1, ["a"]), (4, ["b"])], [(2, "blank"), (3, "blank"),
                                                                                (5, "blank")]))

    def test_remarks(self):
        self.assertEqual(read_sheet("#\n#a\n# \u00e9  !\n##\n #\na #"), ([(6, ["a", "#"])], [(5, "space")]))
        self.assertEqual(read_sheet("#" + "x" * 99999), ([], []))

    def test_reasons(self):
        for row, reason in (("A", "sign"), ("a\tb", "sign"), ("a\r", "sign"), ("\u00e9", "sign"), ("a!", "sign"),
                            (" ", "space"), (" a", "space"), ("a ", "space"), ("a  b", "space"), ("   ", "space"),
                            ("a" * 41, "long"), (" ".join(["a"] * 21), "long"), ("b " + "a" * 41, "long"),
                            ("a\u2028b", "sign"), ("a\x0bb", "sign")):
            self.assertEqual(read_sheet(row), ([], [(1, reason)]), row)
            self.assertEqual(read_sheet("x\n" + row + "\ny"), ([(1, ["x"]), (3, ["y"])], [(2, reason)]), row)

    def test_first_reason(self):
        self.assertEqual(read_sheet("A  b"), ([], [(1, "sign")]))
        self.assertEqual(read_sheet(" " + "!" * 50), ([], [(1, "sign")]))
        self.assertEqual(read_sheet(" " + "a" * 50), ([], [(1, "space")]))
        self.assertEqual(read_sheet("a " * 21), ([], [(1, "space")]))
        self.assertEqual(read_sheet("!" * 50), ([], [(1, "sign")]))

    def test_bounds_of_lines(self):
        self.assertEqual(read_sheet("a" * 40), ([(1, ["a" * 40])], []))
        self.assertEqual(read_sheet(" ".join(["a"] * 20)), ([(1, ["a"] * 20)], []))

    def test_too_much(self):
        text = "a\n" * 50000
        self.assertEqual(len(read_sheet(text)[0]), 50000)
        with self.assertRaises(TooMuch):
            read_sheet(text + "a")
        with self.assertRaises(TooMuch):
            read_sheet("#" * 100001)

    def test_write(self):
        self.assertEqual(write_sheet([]), "")
        self.assertEqual(write_sheet([["a", "b"], ["c"]]), "a b\nc\n")
        self.assertEqual(write_sheet([["a", "#"]]), "a #\n")
        self.assertEqual(len(write_sheet([["a"]] * 50000)), 100000)

    def test_no_sheet(self):
        for rows in ([[]], [["a"], ["A"]], [["a"] * 21], [["a"], [None]]):
            with self.assertRaises(Malformed):
                write_sheet(rows)
        for rows in ([["#"]], [["a"], ["#a", "b"]]):
            with self.assertRaises(Refused):
                write_sheet(rows)
        with self.assertRaises(TooMuch):
            write_sheet([["a"]] * 50001)
        with self.assertRaises(TooMuch):
            write_sheet([["a"]] * 49999 + [["ab"]])

    def test_which_error_comes_first(self):
        with self.assertRaises(Malformed):
            write_sheet([["#"], []])
        with self.assertRaises(Malformed):
            write_sheet([["a"]] * 50001 + [["A"]])
        with self.assertRaises(Refused):
            write_sheet([["a"]] * 50001 + [["#"]])

    def test_written_and_read_back(self):
        dice = random.Random(9)
        for _ in range(30):
            rows = [["x" + "".join(dice.choices(SIGNS, k=dice.randint(0, 39))) for _ in range(dice.randint(1, 20))]
                    for _ in range(dice.randint(0, 30))]
            good, bad = read_sheet(write_sheet(rows))
            self.assertEqual(bad, [])
            self.assertEqual(good, [(at + 1, row) for at, row in enumerate(rows)])


def plain_read(text):
    """Point 9 row by row and sign by sign."""
    good, bad = [], []
    rows = text.split("\n")
    if rows[-1] == "":
        rows = rows[:-1]
    for number, row in enumerate(rows, 1):
        words = row.split(" ")
        if row[:1] == "#":
            continue
        if row == "":
            bad.append((number, "blank"))
        elif any(sign != " " and sign not in SIGNS for sign in row):
            bad.append((number, "sign"))
        elif row[0] == " " or row[-1] == " " or "  " in row:
            bad.append((number, "space"))
        elif len(words) > 20 or any(len(word) > 40 for word in words):
            bad.append((number, "long"))
        else:
            good.append((number, words))
    return good, bad


class LargestSheets(unittest.TestCase):
    def test_words_of_forty_signs(self):
        row = ["a" * 40] * 20
        text = write_sheet([row] * 121)
        self.assertEqual(text, (" ".join(row) + "\n") * 121)
        self.assertEqual(read_sheet(text), ([(number, row) for number in range(1, 122)], []))
        # 99220 signs, and rows of 780 signs that come to 100000, or one more.
        rest = ["b" * 40] * 18 + ["c" * 40]
        self.assertEqual(len(write_sheet([row] * 121 + [rest])), 99999)
        longer = ["b" * 40] * 18 + ["c" * 20, "d" * 20]
        self.assertEqual(len(write_sheet([row] * 121 + [longer])), 100000)
        self.assertEqual(write_sheet([row] * 121 + [longer])[99220:], " ".join(longer) + "\n")
        with self.assertRaises(TooMuch):
            write_sheet([row] * 121 + [["b" * 40] * 18 + ["c" * 20, "d" * 21]])
        with self.assertRaises(Malformed):
            write_sheet([row] * 121 + [["b" * 41]])
        with self.assertRaises(Malformed):
            write_sheet([row] * 130 + [["b" * 40] * 21])
        with self.assertRaises(Refused):
            write_sheet([row] * 130 + [["#" * 40]])

    def test_empty_rows(self):
        text = "\n" * 99631 + ("a" * 40 + "\n") * 9
        self.assertEqual(len(text), 100000)
        good, bad = read_sheet(text)
        self.assertEqual(good, [(number, ["a" * 40]) for number in range(99632, 99641)])
        self.assertEqual(bad, [(number, "blank") for number in range(1, 99632)])
        with self.assertRaises(TooMuch):
            read_sheet(text + "a")
        with self.assertRaises(TooMuch):
            read_sheet("\n" + text)
        good, bad = read_sheet("\n" * 100000)
        self.assertEqual((good, len(bad), bad[-1]), ([], 100000, (100000, "blank")))
        with self.assertRaises(TooMuch):
            read_sheet("\n" * 100001)

    def test_rows_of_twenty_words(self):
        text = (("a" * 40 + " ") * 19 + "b\n") * 128
        expected = [(number, ["a" * 40] * 19 + ["b"]) for number in range(1, 129)]
        self.assertEqual(read_sheet(text), (expected, []))
        more = text + "c" * (100000 - len(text))
        self.assertEqual(read_sheet(more), (expected + [(129, ["c" * 32])], []))
        with self.assertRaises(TooMuch):
            read_sheet(more + "c")
        self.assertEqual(read_sheet(text + "!"), (expected, [(129, "sign")]))
        self.assertEqual(read_sheet(text + "\u00e9\na"), (expected + [(130, ["a"])], [(129, "sign")]))

    def test_words_with_something_inside(self):
        for bad in (" ", "\n", "a b", "a\nb", "a\n", " a", "A", "a\t", "\u00e9", "a" * 41, "", None, ["a"], 7, b"a", True):
            for rows in ([["a", bad]], [["a"], [bad], ["b"]], [["a", "b"], ["c", bad, "d"]]):
                with self.assertRaises(Malformed, msg=bad):
                    write_sheet(rows)
        with self.assertRaises(Malformed):
            write_sheet([["a", "b"], ["c d"], []])

    def test_gaps(self):
        for many in (0, 1, 2, 498, 499, 500, 501, 998, 999, 1000, 1001, 1499, 1500, 1501, 2600):
            for ahead in ("", "a", "a b", "!", "#", " "):
                for behind in ("", "a", "a  b", "#x", "\n" * 500 + "z\n", "b\n\nc"):
                    text = ahead + "\n" * many + behind
                    self.assertEqual(read_sheet(text), plain_read(text), (ahead, many, behind))

    def test_against_the_plain_way(self):
        dice = random.Random(90)
        pieces = ["a", "b1", "-", "#", " ", " ", "  ", "\n", "\n", "\n\n\n", "a" * 40, "x" * 41, "A", "!", "\t", "\r", "\x0b",
                  "\u00e9", "\u2028", "q " * 19, "q " * 20 + "q", "0", "=", "\n" * 499, "\n" * 500, "\n" * 1200, "\u0660"]
        for clean in (True, False):
            told = [piece for piece in pieces if not clean or all(sign in SIGNS + " \n" for sign in piece)]
            for _ in range(400):
                text = "".join(dice.choices(told, k=dice.randint(0, 40)))
                self.assertEqual(read_sheet(text), plain_read(text))

    def test_each_sign(self):
        for code in list(range(0, 0x250)) + [0x2028, 0x660, 0xff10, 0x1d7ce]:
            for text in (chr(code), "b" + chr(code) + "c", "a\nb" + chr(code) + "c\nd"):
                self.assertEqual(read_sheet(text), plain_read(text))


if __name__ == "__main__":
    unittest.main()
