"""Points 16 to 22: rules, terms, papers, and starts told from last days."""

import itertools
import random
import unittest

import makers
import plain
from docketloom.civil import day_of
from docketloom.errors import NotThere, OutOfRange
from docketloom.terms import first_start, is_rule, last_day, last_start, paper_of, shows_last
from odd import ODD, is_plain, mutants, same

NONE = ((), (), (), ())
# The day 0 is a Saturday.
WEEKEND = ((5, 6), (), (), ())
# No day from the day 999990 on is open.
SHUT_END = ((), (), tuple((day, "shut") for day in range(999990, 1000001)), ())
SHUT_START = ((), (), tuple((day, "shut") for day in range(0, 10)), ())


class IsRule(unittest.TestCase):
    def test_good_ones(self):
        for unit, since, roll in itertools.product(("days", "open", "weeks", "months"), ("day", "next"),
                                                   ("on", "back", "no")):
            for count in (1, 1000):
                self.assertIs(is_rule((count, unit, since, roll, 0)), True)
            self.assertIs(is_rule((0, unit, "next", roll, 0)), True)
            self.assertIs(is_rule((0, unit, "day", roll, 0)), False)
            self.assertIs(is_rule((1, unit, since, roll, 100)), unit == "days")
            self.assertIs(is_rule((1, unit, since, roll, 1)), unit == "days")

    def test_bounds(self):
        for rule in ((-1, "days", "next", "on", 0), (1001, "days", "next", "on", 0), (1, "days", "next", "on", -1),
                     (1, "days", "next", "on", 101), (1, "years", "next", "on", 0), (1, "days", "then", "on", 0),
                     (1, "days", "next", "off", 0), (True, "days", "next", "on", 0), (1, "days", "next", "on", False),
                     (1, "days", "next", "on"), (1, "days", "next", "on", 0, 0), [1, "days", "next", "on", 0],
                     (1.0, "days", "next", "on", 0), (1, "weeks", "next", "on", False)):
            self.assertIs(is_rule(rule), False, rule)

    def test_values_of_every_kind(self):
        self.assertEqual([value for value in ODD if is_rule(value)], [])
        for value in mutants((3, "days", "next", "on", 7)):
            answer = is_rule(value)
            self.assertIn(answer, (True, False))
            if not is_plain(value):
                self.assertIs(answer, False, value)


class LastDay(unittest.TestCase):
    def test_units(self):
        # Days 0, 1, 7, 8 are a weekend; 2 is a Monday.
        self.assertEqual(last_day(WEEKEND, (3, "days", "next", "no", 0), 2), 5)
        self.assertEqual(last_day(WEEKEND, (3, "days", "day", "no", 0), 2), 4)
        self.assertEqual(last_day(WEEKEND, (5, "days", "next", "no", 0), 2), 7)
        self.assertEqual(last_day(WEEKEND, (5, "days", "next", "on", 0), 2), 9)
        self.assertEqual(last_day(WEEKEND, (5, "days", "next", "back", 0), 2), 6)
        self.assertEqual(last_day(WEEKEND, (5, "open", "next", "no", 0), 2), 9)
        self.assertEqual(last_day(WEEKEND, (5, "open", "day", "no", 0), 2), 6)
        self.assertEqual(last_day(WEEKEND, (2, "weeks", "next", "no", 0), 2), 16)
        self.assertEqual(last_day(WEEKEND, (2, "weeks", "day", "no", 0), 2), 15)
        self.assertEqual(last_day(WEEKEND, (2, "weeks", "day", "on", 0), 2), 16)
        self.assertEqual(last_day(WEEKEND, (2, "weeks", "day", "back", 0), 2), 13)
        self.assertEqual(last_day(NONE, (1, "months", "next", "no", 0), day_of(2000, 1, 31)), day_of(2000, 2, 29))
        self.assertEqual(last_day(NONE, (1, "months", "day", "no", 0), day_of(2000, 1, 31)), day_of(2000, 2, 28))

    def test_rest_days(self):
        calendar = ((5, 6), (), (), ((4, 20),))
        self.assertEqual(last_day(calendar, (3, "days", "next", "no", 0), 2), 21)
        self.assertEqual(last_day(calendar, (1, "weeks", "next", "no", 0), 2), 9)
        self.assertEqual(last_day(calendar, (1, "weeks", "next", "on", 0), 2), 20)
        self.assertEqual(last_day(calendar, (1, "weeks", "next", "back", 0), 2), 3)
        self.assertEqual(last_day(calendar, (1, "weeks", "next", "back", 0), 5), 5)

    def test_short_terms(self):
        self.assertEqual(last_day(WEEKEND, (6, "days", "next", "no", 7), 2), 10)
        self.assertEqual(last_day(WEEKEND, (6, "days", "next", "no", 6), 2), 8)
        self.assertEqual(last_day(WEEKEND, (6, "days", "next", "no", 0), 2), 8)

    def test_count_of_nought(self):
        for unit in ("days", "open", "weeks", "months"):
            self.assertEqual(last_day(WEEKEND, (0, unit, "next", "no", 0), 7), 7)
            self.assertEqual(last_day(WEEKEND, (0, unit, "next", "on", 0), 7), 9)
            self.assertEqual(last_day(WEEKEND, (0, unit, "next", "back", 0), 7), 7)
            self.assertEqual(last_day(WEEKEND, (0, unit, "next", "back", 0), 6), 6)
            self.assertEqual(paper_of(WEEKEND, (0, unit, "next", "on", 0), 7), (7, 0, (), 7, 9))

    def test_begin_of_minus_one(self):
        self.assertEqual(paper_of(NONE, (3, "days", "day", "no", 0), 0), (-1, 3, ((0, 3),), 2, 2))
        self.assertEqual(paper_of(WEEKEND, (1, "open", "day", "no", 0), 0), (-1, 1, ((2, 3),), 2, 2))
        self.assertEqual(paper_of(NONE, (1, "months", "day", "no", 0), 0), (-1, 31, ((0, 31),), 30, 30))
        self.assertEqual(paper_of(NONE, (1, "weeks", "day", "no", 0), 0), (-1, 7, ((0, 7),), 6, 6))

    def test_last_days_of_all(self):
        last = 1000000
        self.assertEqual(last_day(NONE, (1, "days", "day", "on", 0), last), last)
        self.assertEqual(last_day(NONE, (0, "days", "next", "on", 0), last), last)
        self.assertEqual(last_day(NONE, (7, "days", "next", "no", 0), last - 7), last)
        self.assertEqual(last_day(NONE, (1, "weeks", "next", "no", 0), last - 7), last)
        self.assertEqual(last_day(NONE, (1, "months", "day", "no", 0), day_of(2737, 10, 29)), last)
        for rule, start in (((1, "days", "next", "no", 0), last), ((8, "days", "next", "no", 0), last - 7),
                            ((1, "weeks", "next", "back", 0), last - 6), ((1000, "months", "next", "on", 0), 970000),
                            ((1, "months", "next", "no", 0), day_of(2737, 10, 29)),
                            ((1, "months", "day", "no", 0), day_of(2737, 10, 30)), ((2, "open", "day", "no", 0), last)):
            for ask in (last_day, paper_of):
                with self.assertRaises(NotThere, msg=(rule, start)):
                    ask(NONE, rule, start)

    def test_no_open_day_to_roll_on_to(self):
        self.assertEqual(last_day(SHUT_END, (1, "days", "next", "on", 0), 999988), 999989)
        for count, start in ((2, 999988), (0, 999990), (0, 1000000)):
            with self.assertRaises(NotThere):
                last_day(SHUT_END, (count, "days", "next", "on", 0), start)
        self.assertEqual(last_day(SHUT_END, (2, "days", "next", "back", 0), 999988), 999989)
        self.assertEqual(last_day(SHUT_END, (2, "days", "next", "back", 0), 999995), 999995)
        with self.assertRaises(NotThere):
            last_day(SHUT_END, (1, "open", "next", "no", 0), 999989)

    def test_no_day(self):
        rule = (1, "days", "next", "on", 0)
        for day in (-1, 1000001):
            for ask in (last_day, paper_of, last_start, first_start):
                with self.assertRaises(OutOfRange):
                    ask(NONE, rule, day)
            with self.assertRaises(OutOfRange):
                shows_last(NONE, rule, day, None)

    def test_against_the_plain_way(self):
        dice = random.Random(17)
        for near in (0, 30, 400, 730500, 999700, 999960) * 8:
            calendar = makers.calendar(dice, near, 120)
            kinds = plain.Kinds(calendar)
            for _ in range(12):
                rule = makers.rule(dice)
                start = max(0, min(1000000, near + dice.randint(-40, 40)))
                try:
                    told = plain.paper(kinds, rule, (), start)
                except plain.NoLastDay:
                    for ask in (last_day, paper_of):
                        with self.assertRaises(NotThere):
                            ask(calendar, rule, start)
                    self.assertIs(shows_last(calendar, rule, start, None), False)
                    continue
                self.assertEqual(paper_of(calendar, rule, start), told)
                self.assertEqual(last_day(calendar, rule, start), told[4])
                self.assertIs(shows_last(calendar, rule, start, told), True)
                self.assertEqual(sum(behind - first for first, behind in told[2]), told[1])

    def test_great_counts(self):
        dice = random.Random(18)
        for unit in ("days", "open", "weeks", "months"):
            for roll in ("on", "back", "no"):
                calendar = makers.calendar(dice, 700000)
                rule = (1000, unit, "next", roll, 0)
                self.assertEqual(paper_of(calendar, rule, 699900),
                                 plain.paper(plain.Kinds(calendar), rule, (), 699900))

    def test_later_starts_never_end_earlier(self):
        dice = random.Random(20)
        for _ in range(60):
            calendar = makers.calendar(dice, 730500, 60)
            rule = makers.rule(dice)
            ends = [last_day(calendar, rule, start) for start in range(730450, 730550)]
            self.assertEqual(ends, sorted(ends))


class Papers(unittest.TestCase):
    def test_runs(self):
        self.assertEqual(paper_of(WEEKEND, (6, "open", "next", "on", 0), 2), (2, 6, ((3, 7), (9, 11)), 10, 10))
        calendar = ((5, 6), (), (), ((4, 20),))
        self.assertEqual(paper_of(calendar, (3, "days", "next", "on", 0), 2), (2, 3, ((3, 4), (20, 22)), 21, 23))

    def test_wrong_papers(self):
        rule = (6, "open", "next", "on", 0)
        good = paper_of(WEEKEND, rule, 2)
        self.assertIs(shows_last(WEEKEND, rule, 2, good), True)
        for value in mutants(good):
            self.assertIs(shows_last(WEEKEND, rule, 2, value), same(value, good), value)
        for runs in ((), ((3, 7),), ((3, 5), (5, 7), (9, 11)), ((9, 11), (3, 7)), ((3, 7), (9, 12)), ((3, 11),),
                     ((4, 7), (9, 12)), [(3, 7), (9, 11)], ([3, 7], [9, 11])):
            self.assertIs(shows_last(WEEKEND, rule, 2, (2, 6, runs, 10, 10)), False)
        self.assertIs(shows_last(WEEKEND, rule, 2, (2, 6, ((3, 7), (9, 11)), 10, 11)), False)

    def test_truth_values_are_no_numbers(self):
        rule = (1, "days", "next", "no", 0)
        self.assertIs(shows_last(NONE, rule, 0, (0, 1, ((1, 2),), 1, 1)), True)
        self.assertIs(shows_last(NONE, rule, 0, (False, 1, ((1, 2),), 1, 1)), False)
        self.assertIs(shows_last(NONE, rule, 0, (0, True, ((1, 2),), 1, 1)), False)
        self.assertIs(shows_last(NONE, rule, 0, (0, 1, ((True, 2),), 1, 1)), False)
        self.assertIs(shows_last(NONE, rule, 0, (0, 1, ((1, 2),), 1, True)), False)

    def test_no_last_day_no_paper(self):
        rule = (1, "days", "next", "no", 0)
        for value in ODD + [(1000000, 1, ((1000001, 1000002),), 1000001, 1000001)]:
            self.assertIs(shows_last(NONE, rule, 1000000, value), False)


class Starts(unittest.TestCase):
    def check(self, calendar, rule, day, low):
        """Both starts held against the last days of all starts from low on; those ahead of low end before the day."""
        ends = []
        for start in range(low, day + 1):
            try:
                ends.append((start, last_day(calendar, rule, start)))
            except NotThere:
                ends.append((start, None))
        found = [start for start, last in ends if last is not None and last <= day]
        self.assertEqual(last_start(calendar, rule, day), max(found, default=None), (calendar, rule, day))
        found = [start for start, last in ends if last is None or last >= day]
        self.assertEqual(first_start(calendar, rule, day), min(found), (calendar, rule, day))

    def test_start_by_start(self):
        dice = random.Random(21)
        for near in (0, 40, 100, 999980, 1000000) * 12:
            calendar = makers.calendar(dice, near, 80)
            rule = makers.rule(dice, 20)
            for _ in range(4):
                day = max(0, min(1000000, near + dice.randint(-40, 40)))
                self.check(calendar, rule, day, max(0, day - 400))

    def test_counting_backward(self):
        dice = random.Random(22)
        for near in (0, 100, 1500, 730500, 999900, 1000000) * 10:
            calendar = makers.calendar(dice, near, 120)
            kinds = plain.Kinds(calendar)
            for unit in ("days", "open", "weeks", "months"):
                rule = makers.rule(dice)
                while rule[1] != unit:
                    rule = makers.rule(dice)
                for _ in range(4):
                    day = max(0, min(1000000, near + dice.randint(-60, 60)))
                    self.assertEqual(last_start(calendar, rule, day), plain.last_start(kinds, rule, day),
                                     (calendar, rule, day))

    def test_one_start_behind_the_other(self):
        dice = random.Random(23)
        for _ in range(30):
            calendar = makers.calendar(dice, 3000, 60)
            rule = makers.rule(dice)
            for day in range(2990, 3010):
                before = last_start(calendar, rule, day - 1)
                self.assertEqual(first_start(calendar, rule, day), before + 1)

    def test_none(self):
        self.assertIsNone(last_start(NONE, (3, "days", "next", "no", 0), 2))
        self.assertEqual(last_start(NONE, (3, "days", "next", "no", 0), 3), 0)
        self.assertIsNone(last_start(NONE, (3, "days", "day", "no", 0), 1))
        self.assertEqual(last_start(NONE, (3, "days", "day", "no", 0), 2), 0)
        self.assertIsNone(last_start(SHUT_START, (0, "days", "next", "on", 0), 9))
        self.assertEqual(last_start(SHUT_START, (0, "days", "next", "on", 0), 10), 10)
        self.assertEqual(last_start(SHUT_START, (0, "days", "next", "back", 0), 9), 9)
        self.assertIsNone(last_start(NONE, (1000, "months", "next", "no", 0), 30000))
        for roll in ("on", "back", "no"):
            self.assertEqual(first_start(NONE, (3, "days", "next", roll, 0), 0), 0)
            self.assertEqual(first_start(NONE, (3, "days", "next", roll, 0), 3), 0)
            self.assertEqual(first_start(NONE, (3, "days", "next", roll, 0), 4), 1)

    def test_end_of_all_days(self):
        self.assertEqual(last_start(SHUT_END, (5, "days", "next", "back", 0), 999995), 999995)
        self.assertEqual(last_start(SHUT_END, (5, "days", "next", "back", 0), 999989), 999989)
        self.assertEqual(last_start(SHUT_END, (5, "days", "next", "on", 0), 1000000), 999984)
        self.assertEqual(first_start(SHUT_END, (5, "days", "next", "on", 0), 1000000), 999985)
        self.assertEqual(last_start(NONE, (5, "days", "next", "on", 0), 1000000), 999995)


if __name__ == "__main__":
    unittest.main()
