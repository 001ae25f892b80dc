"""Points 10 to 12: days, dates, months, Easter."""

import unittest

import plain
from docketloom.civil import date_of, day_of, easter, is_leap, month_days, months_later
from docketloom.days import LAST_DAY, is_day, weekday
from docketloom.errors import OutOfRange
from odd import ODD


class Days(unittest.TestCase):
    def test_is_day(self):
        self.assertEqual(LAST_DAY, 1000000)
        for day in (0, 1, 999999, 1000000):
            self.assertIs(is_day(day), True)
        for value in (-1, 1000001, True, False, None, "0", 0.0, (0,), [0]):
            self.assertIs(is_day(value), False)
        for value in ODD:
            self.assertIn(is_day(value), (True, False))
        self.assertEqual([value for value in ODD if is_day(value)], [0, 1, 2, 7])

    def test_weekday(self):
        self.assertEqual([weekday(day) for day in range(9)], [5, 6, 0, 1, 2, 3, 4, 5, 6])
        for day in list(range(0, 1000001, 997)) + [1000000]:
            self.assertEqual(weekday(day), plain.weekday(day))

    def test_no_day(self):
        for day in (-1, 1000001):
            with self.assertRaises(OutOfRange):
                weekday(day)
            with self.assertRaises(OutOfRange):
                date_of(day)
            with self.assertRaises(OutOfRange):
                months_later(day, 0)


class Dates(unittest.TestCase):
    def test_ends(self):
        self.assertEqual(date_of(0), (0, 1, 1))
        self.assertEqual(date_of(1000000), (2737, 11, 28))
        self.assertEqual(day_of(0, 1, 1), 0)
        self.assertEqual(day_of(2737, 11, 28), 1000000)
        self.assertEqual(day_of(0, 2, 29), 59)
        self.assertEqual(date_of(59), (0, 2, 29))
        self.assertEqual(date_of(60), (0, 3, 1))
        self.assertEqual(date_of(366), (1, 1, 1))

    def test_each_way(self):
        days = list(range(0, 1000001, 61)) + list(range(0, 1500)) + list(range(998500, 1000001))
        for day in days:
            self.assertEqual(date_of(day), plain.date(day))
            self.assertEqual(day_of(*date_of(day)), day)

    def test_ends_of_february(self):
        for year, length in ((0, 29), (4, 29), (100, 28), (1900, 28), (2000, 29), (2001, 28), (2736, 29), (2737, 28)):
            self.assertEqual(month_days(year, 2), length)
            self.assertIs(is_leap(year), length == 29)
            end = day_of(year, 2, length)
            self.assertEqual(date_of(end), (year, 2, length))
            self.assertEqual(date_of(end + 1), (year, 3, 1))
            with self.assertRaises(OutOfRange):
                day_of(year, 2, length + 1)

    def test_months(self):
        self.assertEqual([month_days(2001, month) for month in range(1, 13)],
                         [31, 28, 31, 30, 31, 30, 31, 31, 30, 31, 30, 31])
        for year in range(0, 2738, 13):
            for month in range(1, 13):
                self.assertEqual(month_days(year, month), plain.month_length(year, month))

    def test_no_date(self):
        for date in ((-1, 1, 1), (2738, 1, 1), (2000, 0, 1), (2000, 13, 1), (2000, 1, 0), (2000, 1, 32), (2000, 4, 31),
                     (2001, 2, 29), (2737, 11, 29), (2737, 11, 31), (2737, 12, 1), (2737, 12, 31), (2000, -1, 1),
                     (2000, 1, -1)):
            with self.assertRaises(OutOfRange, msg=date):
                day_of(*date)

    def test_no_year_or_month(self):
        for year in (-1, 2738, -4):
            with self.assertRaises(OutOfRange):
                is_leap(year)
            with self.assertRaises(OutOfRange):
                month_days(year, 1)
            with self.assertRaises(OutOfRange):
                easter(year)
        for month in (0, 13, -1):
            with self.assertRaises(OutOfRange):
                month_days(2000, month)
        self.assertIs(is_leap(0), True)
        self.assertIs(is_leap(2737), False)
        self.assertEqual(month_days(2737, 12), 31)


class Later(unittest.TestCase):
    def test_ends_of_months(self):
        def later(date, months):
            return date_of(months_later(day_of(*date), months))
        self.assertEqual(later((2000, 1, 31), 1), (2000, 2, 29))
        self.assertEqual(later((2001, 1, 31), 1), (2001, 2, 28))
        self.assertEqual(later((2001, 1, 28), 1), (2001, 2, 28))
        self.assertEqual(later((2000, 2, 29), 12), (2001, 2, 28))
        self.assertEqual(later((2000, 2, 29), 48), (2004, 2, 29))
        self.assertEqual(later((2000, 12, 31), 2), (2001, 2, 28))
        self.assertEqual(later((2000, 11, 30), 1), (2000, 12, 30))
        self.assertEqual(later((2000, 8, 31), 1), (2000, 9, 30))
        self.assertEqual(later((1999, 12, 1), 1), (2000, 1, 1))
        self.assertEqual(later((2000, 5, 5), 0), (2000, 5, 5))
        self.assertEqual(later((2000, 5, 5), 1000), (2083, 9, 5))

    def test_against_the_plain_way(self):
        for day in range(0, 960000, 9973):
            for months in (0, 1, 2, 11, 12, 13, 1000):
                self.assertEqual(months_later(day, months), plain.months_later(day, months))

    def test_a_later_day_is_never_earlier_later(self):
        for months in (1, 2, 12, 13):
            told = [months_later(day, months) for day in range(730000, 731600)]
            self.assertEqual(told, sorted(told))

    def test_bounds(self):
        for months in (-1, 1001):
            with self.assertRaises(OutOfRange):
                months_later(0, months)
        self.assertEqual(months_later(1000000, 0), 1000000)
        self.assertEqual(months_later(day_of(2737, 10, 28), 1), 1000000)
        self.assertEqual(months_later(0, 1000), day_of(83, 5, 1))
        for date in ((2737, 10, 29), (2737, 11, 28)):
            with self.assertRaises(OutOfRange):
                months_later(day_of(*date), 1)
        with self.assertRaises(OutOfRange):
            months_later(990000, 1000)


class Easter(unittest.TestCase):
    def test_known_years(self):
        for date in ((1818, 3, 22), (1943, 4, 25), (1981, 4, 19), (1954, 4, 18), (2000, 4, 23), (2008, 3, 23),
                     (2019, 4, 21), (2023, 4, 9), (2024, 3, 31), (2025, 4, 20), (2038, 4, 25), (2285, 3, 22)):
            self.assertEqual(date_of(easter(date[0])), date)

    def test_all_years(self):
        for year in range(2738):
            self.assertEqual(easter(year), plain.easter(year))
            self.assertEqual(weekday(easter(year)), 6)

    def test_first_and_last_year(self):
        self.assertEqual(date_of(easter(0)), (0, 4, 9))
        self.assertEqual(date_of(easter(2737)), (2737, 4, 11))


if __name__ == "__main__":
    unittest.main()
