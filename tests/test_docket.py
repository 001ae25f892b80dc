"""Points 38 to 40: entries, their errors, corrections, and the rows that are known."""

import random
import unittest

import court
import makers
from docketloom.docket import Docket, docket_of
from docketloom.errors import Malformed, NotThere, OutOfRange, Refused, TooMuch
from odd import ODD

NONE = ((), (), (), ())
BOOK = ((("answer", "month", 0),),
        (("claim", ("plaintiff",), (), (), (("answer", "defendant"),), (), False),
         ("defence", ("defendant",), (), ("answer",), (), (), False)))
MONTH = (10, "days", "next", "no", 0)
REGIMES = ("old", ((0, (NONE, (("month", MONTH),))),))
FILE = ("file", "one", "ann", "claim")


def made():
    return Docket(BOOK, REGIMES)


class Making(unittest.TestCase):
    def test_fields(self):
        docket = made()
        self.assertEqual(docket.book, BOOK)
        self.assertEqual(docket.regimes, REGIMES)
        self.assertEqual(docket.entries(), [])
        self.assertEqual(docket.rows(5), [])
        self.assertEqual(docket.struck(5), [])

    def test_malformed(self):
        for value in ODD + [BOOK[:1], list(BOOK)]:
            with self.assertRaises(Malformed):
                Docket(value, REGIMES)
        for value in ODD + [REGIMES[:1], list(REGIMES)]:
            with self.assertRaises(Malformed):
                Docket(BOOK, value)

    def test_words_of_duties(self):
        without = ("old", ((0, (NONE, (("month", MONTH),))), (5, (NONE, (("week", MONTH),)))))
        with self.assertRaises(NotThere):
            Docket(BOOK, without)
        with self.assertRaises(NotThere):
            Docket(BOOK, ("old", ((0, (NONE, ())),)))
        Docket(((), BOOK[1][:0] + (("claim", ("plaintiff",), (), (), (), (), False),)), without)
        with self.assertRaises(Malformed):
            Docket((), without)


class Entering(unittest.TestCase):
    def test_numbers(self):
        docket = made()
        deeds = [("begin", "one", (("ann", "plaintiff"),)), FILE, ("served", "one", "ann", "answer"),
                 ("leave", "one", "ann", "answer", 50), ("stay", "all", "", "rests"), ("lift", 4), ("strike", 5),
                 ("amend", 1, 3), ("strike", 6), ("lift", 0)]
        self.assertEqual([docket.enter(10 + at, 1000 - at, deed) for at, deed in enumerate(deeds)], list(range(10)))
        self.assertEqual(docket.entries(), [(at, 10 + at, 1000 - at, deed) for at, deed in enumerate(deeds)])
        again = docket_of(BOOK, REGIMES, docket.entries())
        self.assertEqual(again.entries(), docket.entries())

    def check(self, error, *values):
        docket = made()
        docket.enter(10, 5, FILE)
        docket.enter(10, 5, ("strike", 0))
        docket.enter(10, 5, ("amend", 0, 7))
        before = docket.entries()
        with self.assertRaises(error, msg=values):
            docket.enter(*values)
        self.assertEqual(docket.entries(), before)
        with self.assertRaises(error, msg=values):
            docket_of(BOOK, REGIMES, before + [(3,) + values])

    def test_errors(self):
        for day in (-1, 1000001):
            self.check(OutOfRange, day, 10, FILE)
            self.check(OutOfRange, 10, day, FILE)
        for deed in (("file", "one", "ann"), ("lift", 500), ("strike", True), ["lift", 0], None, ("lift",), 5, "lift"):
            self.check(Malformed, 10, 10, deed)
        for deed in (("file", "one", "ann", "reply"), ("file", "one", "ann", "answer"),
                     ("served", "one", "ann", "claim"), ("leave", "one", "ann", "other", 5), ("lift", 3), ("strike", 3),
                     ("amend", 3, 5), ("lift", 499)):
            self.check(NotThere, 10, 10, deed)
        self.check(Refused, 9, 10, FILE)
        self.check(Refused, 10, 10, ("amend", 1, 5))
        self.check(Refused, 10, 10, ("amend", 2, 5))

    def test_entered_in_order(self):
        docket = made()
        docket.enter(10, 5, FILE)
        with self.assertRaises(Refused):
            docket.enter(9, 5, FILE)
        docket.enter(10, 5, FILE)
        docket.enter(11, 5, FILE)
        self.assertEqual([entered for _, entered, _, _ in docket.entries()], [10, 10, 11])

    def test_which_error_comes_first(self):
        self.check(OutOfRange, -1, 10, None)
        self.check(OutOfRange, 10, -1, ("file", "one", "ann", "reply"))
        self.check(Malformed, 9, 10, ("amend", 1, -5))
        self.check(NotThere, 9, 10, ("strike", 3))

    def test_what_is_no_error(self):
        docket = made()
        docket.enter(10, 5, ("file", "nowhere", "nobody", "claim"))
        docket.enter(10, 1000000, ("lift", 0))
        docket.enter(10, 0, ("strike", 1))
        docket.enter(10, 0, ("strike", 1))
        docket.enter(1000000, 0, ("strike", 3))
        self.assertEqual(len(docket.entries()), 5)

    def test_wrong_numbers(self):
        for numbers in ((1,), (0, 2), (0, 0), (1, 0), (-1,), (False,), (0, True)):
            entries = [(number, 10, 10, FILE) for number in numbers]
            with self.assertRaises(Malformed, msg=numbers):
                docket_of(BOOK, REGIMES, entries)
        self.assertEqual(docket_of(BOOK, REGIMES, []).entries(), [])

    def test_500_entries(self):
        docket = made()
        for at in range(499):
            docket.enter(at, at, FILE)
        self.assertEqual(docket.enter(499, 0, ("strike", 498)), 499)
        before = docket.entries()
        for deed in (FILE, ("strike", 0), ("stay", "all", "", "rests")):
            with self.assertRaises(TooMuch):
                docket.enter(500, 500, deed)
        with self.assertRaises(Refused):
            docket.enter(498, 500, FILE)
        with self.assertRaises(NotThere):
            docket.enter(500, 500, ("file", "one", "ann", "reply"))
        self.assertEqual(docket.entries(), before)
        self.assertEqual(docket_of(BOOK, REGIMES, before).entries(), before)

    def test_100_stays(self):
        docket = made()
        for at in range(100):
            docket.enter(at, at, ("stay", "party", "ann", "rests"))
        docket.enter(100, 100, ("strike", 3))
        docket.enter(100, 100, ("lift", 4))
        with self.assertRaises(TooMuch):
            docket.enter(100, 100, ("stay", "all", "", "rests"))
        docket.enter(100, 100, FILE)

    def test_kept_to_itself(self):
        docket = made()
        docket.enter(10, 5, FILE)
        docket.entries().clear()
        docket.rows(10).clear()
        docket.struck(10).append(7)
        self.assertEqual(docket.entries(), [(0, 10, 5, FILE)])
        self.assertEqual(docket.rows(10), [(0, 5)])
        self.assertEqual(docket.struck(10), [])
        entries = docket.entries()
        other = docket_of(BOOK, REGIMES, entries)
        entries.clear()
        self.assertEqual(other.entries(), [(0, 10, 5, FILE)])


class Known(unittest.TestCase):
    def test_strikes_of_strikes(self):
        docket = made()
        docket.enter(10, 5, FILE)
        docket.enter(11, 5, ("strike", 0))
        docket.enter(12, 5, ("strike", 1))
        docket.enter(13, 5, ("strike", 2))
        docket.enter(14, 5, ("strike", 0))
        docket.enter(15, 5, ("strike", 3))
        self.assertEqual([docket.struck(k) for k in range(9, 16)],
                         [[], [], [0], [1], [0, 2], [0, 2], [0, 1, 3]])
        self.assertEqual([docket.rows(k) for k in range(9, 16)], [[], [(0, 5)], [], [(0, 5)], [], [], []])

    def test_struck_twice(self):
        docket = made()
        docket.enter(10, 5, FILE)
        docket.enter(10, 5, ("strike", 0))
        docket.enter(10, 5, ("strike", 0))
        docket.enter(11, 5, ("strike", 2))
        self.assertEqual(docket.struck(10), [0])
        self.assertEqual(docket.struck(11), [0, 2])
        self.assertEqual(docket.rows(11), [])

    def test_amendments(self):
        docket = made()
        docket.enter(10, 5, FILE)
        docket.enter(11, 900, ("amend", 0, 20))
        docket.enter(12, 901, ("amend", 0, 30))
        docket.enter(13, 902, ("strike", 2))
        docket.enter(14, 903, ("strike", 1))
        docket.enter(15, 903, ("strike", 3))
        self.assertEqual([docket.rows(k) for k in range(10, 16)],
                         [[(0, 5)], [(0, 20)], [(0, 30)], [(0, 20)], [(0, 5)], [(0, 30)]])

    def test_amendment_of_what_is_struck(self):
        docket = made()
        docket.enter(10, 5, FILE)
        docket.enter(11, 5, ("strike", 0))
        docket.enter(12, 5, ("amend", 0, 20))
        docket.enter(13, 5, ("strike", 1))
        self.assertEqual([docket.rows(k) for k in range(10, 14)], [[(0, 5)], [], [], [(0, 20)]])

    def test_order_of_rows(self):
        docket = made()
        for held in (7, 5, 7, 3, 5):
            docket.enter(10, held, FILE)
        docket.enter(10, 0, ("amend", 0, 5))
        self.assertEqual(docket.rows(10), [(3, 3), (0, 5), (1, 5), (4, 5), (2, 7)])

    def test_against_the_plain_way(self):
        dice = random.Random(40)
        for _ in range(60):
            book = makers.rule_book(dice)
            entries = makers.entries(dice, book, 200, 40)
            docket = docket_of(book, makers.full_regimes(dice, 200), entries)
            days = sorted({entered for _, entered, _, _ in entries} | {0, 1000000})
            for k in days:
                self.assertEqual(docket.rows(k), court.rows(entries, k))
                self.assertEqual(docket.struck(k),
                                 [at for at, entered, _, _ in entries if entered <= k and court.is_struck(entries, at, k)])

    def test_later_entries_change_nothing_on_earlier_days(self):
        dice = random.Random(400)
        for _ in range(30):
            book = makers.rule_book(dice)
            entries = makers.entries(dice, book, 200, 40)
            regimes = makers.full_regimes(dice, 200)
            whole = docket_of(book, regimes, entries)
            for many in (10, 20, 30):
                k = entries[many][1] - 1
                part = docket_of(book, regimes, [entry for entry in entries if entry[1] <= k])
                self.assertEqual(whole.rows(k), part.rows(k))
                self.assertEqual(whole.struck(k), part.struck(k))


if __name__ == "__main__":
    unittest.main()
