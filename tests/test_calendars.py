"""Points 13 to 15: calendars and the kinds of days."""

import random
import unittest

import makers
import plain
from docketloom.calendars import is_calendar, kind_of, last_open, next_open, open_days, same_kinds
from docketloom.civil import day_of, easter
from docketloom.errors import NotThere, OutOfRange
from odd import ODD, is_plain, mutants

NONE = ((), (), (), ())
GOOD = ((5, 6), (("date", 12, 25), ("feast", -2), ("nth", 5, 0, -1)), ((700, "open"), (701, "shut")),
        ((800, 810), (810, 1010)))


def closed(*days):
    return (days, (), (), ())


def yearly(*marks):
    return ((), marks, (), ())


def singles(*pairs):
    return ((), (), pairs, ())


def recesses(*pairs):
    return ((), (), (), pairs)


class IsCalendar(unittest.TestCase):
    def good(self, value):
        self.assertIs(is_calendar(value), True, value)

    def bad(self, value):
        self.assertIs(is_calendar(value), False, value)

    def test_whole(self):
        self.good(NONE)
        self.good(GOOD)
        self.bad(())
        self.bad(((), (), ()))
        self.bad(((), (), (), (), ()))
        self.bad([(), (), (), ()])
        self.bad(([], (), (), ()))
        self.bad(((), [], (), ()))
        self.bad(((), (), {}, ()))
        self.bad(((), (), (), None))

    def test_closed(self):
        self.good(closed(0, 1, 2, 3, 4, 5))
        self.good(closed(0, 6))
        self.bad(closed(0, 1, 2, 3, 4, 5, 6))
        self.bad(closed(6, 5))
        self.bad(closed(5, 5))
        self.bad(closed(7))
        self.bad(closed(-1))
        self.bad(closed(False))
        self.bad(closed(1.0))

    def test_yearly(self):
        self.good(yearly(("date", 2, 29)))
        self.good(yearly(("date", 4, 30), ("date", 12, 31)))
        for mark in (("date", 2, 30), ("date", 4, 31), ("date", 1, 32), ("date", 0, 1), ("date", 13, 1), ("date", 1, 0),
                     ("date", 1), ("date", 1, 1, 1), ("date", True, 1), ("date", 1, True), ["date", 1, 1],
                     ("day", 1, 1), (1, 1), ("date",), ()):
            self.bad(yearly(mark))
        self.good(yearly(("feast", -60), ("feast", 0), ("feast", 60)))
        for mark in (("feast", -61), ("feast", 61), ("feast", 0, 0), ("feast",), ("feast", False), ("feast", None)):
            self.bad(yearly(mark))
        self.good(yearly(("nth", 1, 0, -1), ("nth", 1, 0, 1), ("nth", 1, 0, 5), ("nth", 12, 6, 5)))
        for mark in (("nth", 0, 0, 1), ("nth", 13, 0, 1), ("nth", 1, 7, 1), ("nth", 1, -1, 1), ("nth", 1, 0, 0),
                     ("nth", 1, 0, 6), ("nth", 1, 0, -2), ("nth", 1, 0), ("nth", 1, 0, 1, 1), ("nth", 1, 0, True)):
            self.bad(yearly(mark))
        self.bad(yearly(("feast", 1), ("feast", 1)))
        self.bad(yearly(("feast", 2), ("feast", 1)))
        self.bad(yearly(("feast", 1), ("date", 1, 1)))
        many = tuple(("feast", k) for k in range(41))
        self.good(yearly(*many[:40]))
        self.bad(yearly(*many))

    def test_singles(self):
        self.good(singles((0, "open"), (1, "shut"), (1000000, "open")))
        for pair in ((-1, "open"), (1000001, "open"), (0, "rest"), (0, "Open"), (0,), (0, "open", 1), (True, "open"),
                     [0, "open"], ("0", "open"), (0, None)):
            self.bad(singles(pair))
        self.bad(singles((1, "open"), (0, "open")))
        self.bad(singles((1, "open"), (1, "open")))
        self.bad(singles((1, "open"), (1, "shut")))
        many = tuple((day, "shut") for day in range(201))
        self.good(singles(*many[:200]))
        self.bad(singles(*many))

    def test_recesses(self):
        self.good(recesses((0, 1), (1, 201), (999999, 1000000)))
        for pair in ((0, 0), (1, 0), (0, 201), (999999, 1000001), (-1, 5), (0,), (0, 1, 2), (False, 1), (0, True),
                     [0, 1], (0, None), ("0", 1)):
            self.bad(recesses(pair))
        self.bad(recesses((0, 10), (9, 20)))
        self.bad(recesses((5, 10), (0, 3)))
        self.bad(recesses((5, 10), (5, 10)))
        many = tuple((day, day + 1) for day in range(31))
        self.good(recesses(*many[:30]))
        self.bad(recesses(*many))

    def test_values_of_every_kind(self):
        for value in ODD:
            self.bad(value)
        for value in mutants(GOOD):
            answer = is_calendar(value)
            self.assertIn(answer, (True, False))
            if not is_plain(value):
                self.assertIs(answer, False, value)

    def test_made_ones(self):
        dice = random.Random(13)
        for _ in range(50):
            self.good(makers.calendar(dice, dice.randint(0, 1000000)))


class Kinds(unittest.TestCase):
    def test_which_comes_first(self):
        # The day 2 is a Monday.
        calendar = ((0,), (("date", 1, 4),), ((2, "open"), (4, "shut"), (5, "open"), (9, "open")), ((8, 10),))
        self.assertEqual([kind_of(calendar, day) for day in range(12)],
                         ["open", "open", "open", "shut", "shut", "open", "open", "open", "rest", "rest", "open",
                          "open"])

    def test_single_in_a_recess(self):
        calendar = ((), (), ((5, "open"), (6, "shut"), (7, "shut")), ((5, 7),))
        self.assertEqual([kind_of(calendar, day) for day in (4, 5, 6, 7, 8)], ["open", "rest", "rest", "shut", "open"])

    def test_date(self):
        calendar = yearly(("date", 2, 29), ("date", 12, 31))
        for year in (0, 1900, 2000, 2001, 2736):
            self.assertEqual(kind_of(calendar, day_of(year, 2, 28)), "open")
            self.assertEqual(kind_of(calendar, day_of(year, 3, 1)), "open")
            self.assertEqual(kind_of(calendar, day_of(year, 12, 31)), "shut")
        for year in (0, 2000, 2736):
            self.assertEqual(kind_of(calendar, day_of(year, 2, 29)), "shut")

    def test_feast(self):
        calendar = yearly(("feast", -60), ("feast", -2), ("feast", 0), ("feast", 39), ("feast", 60))
        for year in (0, 1818, 1943, 2000, 2737):
            day = easter(year)
            for k in range(-70, 71):
                self.assertEqual(kind_of(calendar, day + k), "shut" if k in (-60, -2, 0, 39, 60) else "open")

    def test_nth(self):
        # January of the year 0 begins with a Saturday: it has five Saturdays, Sundays and Mondays.
        self.assertEqual([day for day in range(31) if kind_of(yearly(("nth", 1, 5, 1)), day) == "shut"], [0])
        self.assertEqual([day for day in range(31) if kind_of(yearly(("nth", 1, 5, 5)), day) == "shut"], [28])
        self.assertEqual([day for day in range(31) if kind_of(yearly(("nth", 1, 5, -1)), day) == "shut"], [28])
        self.assertEqual([day for day in range(31) if kind_of(yearly(("nth", 1, 1, 1)), day) == "shut"], [3])
        self.assertEqual([day for day in range(31) if kind_of(yearly(("nth", 1, 1, 5)), day) == "shut"], [])
        self.assertEqual([day for day in range(31) if kind_of(yearly(("nth", 1, 1, -1)), day) == "shut"], [24])

    def test_last_month(self):
        # November of the year 2737 has days behind the last one; the last weekday of it may be one of them.
        last = 1000000
        for weekday in range(7):
            for nth in (-1, 1, 2, 3, 4, 5):
                calendar = yearly(("nth", 11, weekday, nth))
                for day in range(last - 27, last + 1):
                    self.assertEqual(kind_of(calendar, day), plain.kind(calendar, day))

    def test_against_the_plain_way(self):
        dice = random.Random(14)
        for near in (0, 300, 5000, 500000, 730500, 999700, 1000000) * 3:
            calendar = makers.calendar(dice, near)
            for day in range(max(0, near - 420), min(1000000, near + 420) + 1):
                self.assertEqual(kind_of(calendar, day), plain.kind(calendar, day))


class Asked(unittest.TestCase):
    def test_against_the_plain_way(self):
        dice = random.Random(15)
        for near in (0, 40, 300, 5000, 730500, 999700, 1000000) * 2:
            calendar = makers.calendar(dice, near)
            kinds = plain.Kinds(calendar)
            for _ in range(20):
                first = max(0, min(1000000, near + dice.randint(-400, 400)))
                behind = min(1000000, first + dice.choice((0, 1, 63, 64, 65, 400)))
                told = [kinds(day) for day in range(first, behind)]
                self.assertEqual(open_days(calendar, first, behind), told.count("open"))
                later = [day for day in range(first, min(1000001, first + 8000)) if kinds(day) == "open"][:1]
                if later:
                    self.assertEqual(next_open(calendar, first), later[0])
                else:
                    with self.assertRaises(NotThere):
                        next_open(calendar, first)
                day = first
                while day >= 0 and kinds(day) != "open":
                    day -= 1
                if day >= 0:
                    self.assertEqual(last_open(calendar, first), day)
                else:
                    with self.assertRaises(NotThere):
                        last_open(calendar, first)

    def test_none_behind_and_none_ahead(self):
        shut = tuple((day, "shut") for day in range(10)) + tuple((day, "shut") for day in range(999990, 1000001))
        calendar = ((), (), shut, ((10, 20), (20, 30), (999980, 999985)))
        self.assertEqual(next_open(calendar, 0), 30)
        for day in (0, 5, 29):
            with self.assertRaises(NotThere):
                last_open(calendar, day)
        self.assertEqual(last_open(calendar, 30), 30)
        self.assertEqual(last_open(calendar, 1000000), 999989)
        self.assertEqual(next_open(calendar, 999989), 999989)
        for day in (999990, 1000000):
            with self.assertRaises(NotThere):
                next_open(calendar, day)

    def test_stretches(self):
        for ask in (lambda first, behind: open_days(NONE, first, behind),
                    lambda first, behind: same_kinds(NONE, NONE, first, behind)):
            ask(5, 5)
            ask(5, 405)
            ask(999600, 1000000)
            for first, behind in ((5, 4), (5, 406), (-1, 5), (0, -1), (999999, 1000001), (1000001, 1000001), (9, 0)):
                with self.assertRaises(OutOfRange, msg=(first, behind)):
                    ask(first, behind)
        self.assertEqual(open_days(NONE, 5, 5), 0)
        self.assertEqual(open_days(NONE, 5, 405), 400)
        self.assertEqual(open_days(closed(5, 6), 0, 16), 10)

    def test_no_day(self):
        for day in (-1, 1000001):
            for ask in (kind_of, next_open, last_open):
                with self.assertRaises(OutOfRange):
                    ask(NONE, day)


class SameKinds(unittest.TestCase):
    def test_differences(self):
        other = singles((405, "shut"))
        self.assertIs(same_kinds(NONE, other, 5, 405), True)
        self.assertIs(same_kinds(NONE, other, 6, 406), False)
        self.assertIs(same_kinds(NONE, other, 405, 405), True)
        self.assertIs(same_kinds(NONE, recesses((5, 6)), 5, 6), False)
        self.assertIs(same_kinds(singles((5, "shut")), recesses((5, 6)), 5, 6), False)

    def test_what_changes_nothing(self):
        self.assertIs(same_kinds(recesses((10, 40)), recesses((10, 25), (25, 40)), 0, 400), True)
        sundays = tuple((day, "shut") for day in range(1, 401, 7))
        self.assertIs(same_kinds(closed(6), singles(*sundays), 0, 400), True)
        told = ((5, 6), (), ((0, "shut"), (2, "open")), ())
        self.assertIs(same_kinds(closed(5, 6), told, 0, 400), True)
        inside = ((5, 6), (), ((11, "open"),), ((10, 40),))
        self.assertIs(same_kinds(((5, 6), (), (), ((10, 40),)), inside, 0, 400), True)


if __name__ == "__main__":
    unittest.main()
