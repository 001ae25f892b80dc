"""Points 23 to 29: regimes, terms by them, histories, starts in time, inversions."""

import random
import unittest

import makers
import plain
from docketloom.errors import NotThere, OutOfRange
from docketloom.regimes import (history, is_in_time, is_regimes, last_by, least_inversion, regime_at, rule_at,
                                starts_in_time)
from docketloom.terms import last_day
from odd import ODD, is_plain, mutants

NONE = ((), (), (), ())
WEEKEND = ((5, 6), (), (), ())
LONG = (20, "days", "next", "no", 0)
SHORT = (5, "days", "next", "no", 0)


def two(way, one, other, first=100, calendar=NONE):
    return (way, ((0, (calendar, (("month", one),))), (first, (calendar, (("month", other),)))))


def plain_last(told, start, word):
    """The last day by the plain way, or None if there is none."""
    try:
        return told.last((), start, word)
    except (KeyError, plain.NoLastDay):
        return None


def runs_of(days):
    runs = []
    for day in days:
        if runs and runs[-1][1] == day:
            runs[-1] = (runs[-1][0], day + 1)
        else:
            runs.append((day, day + 1))
    return runs


class IsRegimes(unittest.TestCase):
    def test_bounds(self):
        regime = (NONE, (("month", LONG),))
        for way in ("old", "new", "kind"):
            self.assertIs(is_regimes((way, ((0, regime),))), True)
        self.assertIs(is_regimes(("old", ((0, (NONE, ())),))), True)
        for value in (("old", ()), ("older", ((0, regime),)), ("old", ((1, regime),)), ("old", ((0, regime), (0, regime))),
                      ("old", ((0, regime), (5, regime), (4, regime))), ("old", [(0, regime)]), ["old", ((0, regime),)],
                      ("old", ((0, regime), (1000001, regime))), ("old", ((False, regime),)), ("old", ((0,),)),
                      ("old", ((0, regime, 1),)), ("old", ((0, regime),), 1), ("old",), ("old", ((0, [NONE, ()]),)),
                      ("old", ((0, (NONE,)),)), ("old", ((0, (NONE, (), ())),)), ("old", ((0, (NONE, [])),)),
                      (None, ((0, regime),))):
            self.assertIs(is_regimes(value), False, value)
        self.assertIs(is_regimes(("old", ((0, regime), (1000000, regime)))), True)

    def test_how_many(self):
        def many(k):
            return ("new", tuple((day, (NONE, ())) for day in range(k)))
        self.assertIs(is_regimes(many(1)), True)
        self.assertIs(is_regimes(many(12)), True)
        self.assertIs(is_regimes(many(13)), False)

        def rules(k):
            return ("new", ((0, (NONE, tuple(("a" + chr(97 + at), SHORT) for at in range(k)))),))
        self.assertIs(is_regimes(rules(20)), True)
        self.assertIs(is_regimes(rules(21)), False)

    def test_words(self):
        def words(*names):
            return ("new", ((0, (NONE, tuple((name, SHORT) for name in names))),))
        self.assertIs(is_regimes(words("a", "b")), True)
        self.assertIs(is_regimes(words("b", "a")), False)
        self.assertIs(is_regimes(words("a", "a")), False)
        self.assertIs(is_regimes(words("A")), False)
        self.assertIs(is_regimes(("new", ((0, (NONE, (("a", SHORT), ("a", LONG)))),))), False)
        self.assertIs(is_regimes(("new", ((0, (NONE, (("a", SHORT[:4]),))),))), False)
        self.assertIs(is_regimes(("new", ((0, (NONE, (("a",),))),))), False)
        self.assertIs(is_regimes(("new", ((0, (NONE[:3], ())),))), False)

    def test_values_of_every_kind(self):
        self.assertEqual([value for value in ODD if is_regimes(value)], [])
        good = ("kind", ((0, (((5,), (), (), ((3, 9),)), (("a", SHORT),))), (70, (NONE, ()))))
        self.assertIs(is_regimes(good), True)
        for value in mutants(good):
            answer = is_regimes(value)
            self.assertIn(answer, (True, False))
            if not is_plain(value):
                self.assertIs(answer, False, value)

    def test_made_ones(self):
        dice = random.Random(230)
        for _ in range(50):
            self.assertIs(is_regimes(makers.regimes(dice, dice.randint(0, 1000000))), True)


class Holding(unittest.TestCase):
    def test_regime_and_rule(self):
        regimes = ("old", ((0, (NONE, (("month", LONG),))), (100, (WEEKEND, (("week", SHORT),)))))
        for day, at in ((0, 0), (99, 0), (100, 1), (1000000, 1)):
            self.assertEqual(regime_at(regimes, day), regimes[1][at][1])
        self.assertEqual(rule_at(regimes, 99, "month"), LONG)
        self.assertEqual(rule_at(regimes, 100, "week"), SHORT)
        for day, word in ((99, "week"), (100, "month"), (5, "year")):
            with self.assertRaises(NotThere):
                rule_at(regimes, day, word)
        for day in (-1, 1000001):
            with self.assertRaises(OutOfRange):
                regime_at(regimes, day)
            with self.assertRaises(OutOfRange):
                rule_at(regimes, day, "nothing")


class Ways(unittest.TestCase):
    def test_old(self):
        regimes = two("old", LONG, SHORT)
        self.assertEqual([last_by(regimes, start, "month") for start in (10, 79, 80, 99, 100)], [30, 99, 100, 119, 105])
        self.assertEqual(history(regimes, 99, "month"), [(0, 119)])
        self.assertEqual(history(regimes, 100, "month"), [(100, 105)])

    def test_kind(self):
        regimes = two("kind", SHORT, LONG)
        self.assertEqual([last_by(regimes, start, "month") for start in (94, 95, 99, 100)], [99, 115, 119, 120])
        self.assertEqual(history(regimes, 94, "month"), [(0, 99)])
        self.assertEqual(history(regimes, 95, "month"), [(0, 100), (100, 115)])
        regimes = two("kind", LONG, SHORT)
        self.assertEqual(last_by(regimes, 90, "month"), 110)
        self.assertEqual(history(regimes, 90, "month"), [(0, 110), (100, 110)])

    def test_new(self):
        regimes = two("new", LONG, SHORT)
        self.assertEqual([last_by(regimes, start, "month") for start in (79, 80, 90, 95, 96, 100)],
                         [99, 100, 100, 100, 101, 105])
        self.assertEqual(history(regimes, 90, "month"), [(0, 110), (100, 100)])
        self.assertEqual(history(regimes, 99, "month"), [(0, 119), (100, 104)])

    def test_new_rolls_from_the_first_day(self):
        # The day 105 is a Saturday.
        for roll, last in (("on", 107), ("back", 105), ("no", 105)):
            regimes = two("new", LONG, (2, "days", "next", roll, 0), 105, WEEKEND)
            self.assertEqual(last_by(regimes, 95, "month"), last)
        regimes = two("new", LONG, (2, "days", "next", "back", 0), 108, WEEKEND)
        self.assertEqual(last_by(regimes, 95, "month"), 108)

    def test_regimes_without_the_word(self):
        rows = ((0, (NONE, (("month", LONG),))), (100, (NONE, ())), (105, (NONE, (("month", SHORT),))))
        self.assertEqual(history(("new", rows), 90, "month"), [(0, 110), (105, 105)])
        self.assertEqual(history(("kind", rows), 90, "month"), [(0, 110), (105, 110)])
        self.assertEqual(history(("new", rows), 84, "month"), [(0, 104)])
        for way in ("old", "new", "kind"):
            for ask in (last_by, history):
                with self.assertRaises(NotThere):
                    ask((way, rows), 102, "month")
                with self.assertRaises(NotThere):
                    ask((way, rows), 0, "year")

    def test_no_last_day_in_a_step(self):
        rows = two("new", (3, "days", "next", "no", 0), (8, "days", "next", "no", 0), 999995)[1]
        self.assertEqual(last_by(("old", rows), 999994, "month"), 999997)
        for way in ("new", "kind"):
            for ask in (last_by, history):
                with self.assertRaises(NotThere):
                    ask((way, rows), 999994, "month")
            self.assertEqual(last_by((way, rows), 999991, "month"), 999994)

    def test_against_the_plain_way(self):
        dice = random.Random(24)
        for near in (100, 730500, 999950) * 25:
            regimes = makers.regimes(dice, near)
            told = plain.Regimes(regimes)
            for _ in range(15):
                start = max(0, min(1000000, near + dice.randint(-80, 80)))
                word = dice.choice(("month", "week", "year"))
                try:
                    steps = told.history((), start, word)
                except (KeyError, plain.NoLastDay):
                    for ask in (last_by, history):
                        with self.assertRaises(NotThere):
                            ask(regimes, start, word)
                    with self.assertRaises(NotThere):
                        is_in_time(regimes, start, word, start)
                    continue
                self.assertEqual(history(regimes, start, word), steps)
                last = steps[-1][1]
                self.assertEqual(last_by(regimes, start, word), last)
                for day in (start - 1, start, last, last + 1):
                    if 0 <= day <= 1000000:
                        self.assertIs(is_in_time(regimes, start, word, day), start <= day <= last)

    def test_one_regime_is_as_its_rule(self):
        dice = random.Random(240)
        for _ in range(20):
            calendar = makers.calendar(dice, 5000)
            rule = makers.rule(dice)
            for way in ("old", "new", "kind"):
                self.assertEqual(last_by((way, ((0, (calendar, (("a", rule),))),)), 5000, "a"),
                                 last_day(calendar, rule, 5000))

    def test_a_regime_that_is_cut_in_two(self):
        dice = random.Random(29)
        for _ in range(120):
            regimes = makers.regimes(dice, 730500)
            rows = list(regimes[1])
            at = dice.randrange(len(rows))
            low = rows[at][0]
            high = rows[at + 1][0] if at + 1 < len(rows) else 730600
            if high - low < 2:
                continue
            cut = dice.randint(max(low + 1, high - 100), high - 1)
            other = (regimes[0], tuple(rows[:at + 1] + [(cut, rows[at][1])] + rows[at + 1:]))
            self.assertIs(is_regimes(other), True)
            for start in range(730440, 730560, 7):
                for word in ("month", "week"):
                    self.assertEqual(self.told(regimes, start, word), self.told(other, start, word))

    def told(self, regimes, start, word):
        try:
            return last_by(regimes, start, word)
        except NotThere:
            return None

    def test_days_come_first(self):
        regimes = two("old", LONG, SHORT)
        for day in (-1, 1000001):
            for ask in (last_by, history):
                with self.assertRaises(OutOfRange):
                    ask(regimes, day, "year")
            with self.assertRaises(OutOfRange):
                is_in_time(regimes, day, "year", 5)
            with self.assertRaises(OutOfRange):
                is_in_time(regimes, 5, "year", day)


class Starts(unittest.TestCase):
    def test_runs(self):
        regimes = two("old", LONG, SHORT)
        self.assertEqual(starts_in_time(regimes, "month", 110, 20), [(90, 100), (105, 111)])
        self.assertEqual(starts_in_time(regimes, "month", 110, 95), [(95, 100), (105, 111)])
        self.assertEqual(starts_in_time(regimes, "month", 110, 110), [(110, 111)])
        self.assertEqual(starts_in_time(regimes, "year", 110, 10), [])

    def test_spans(self):
        regimes = two("old", LONG, SHORT)
        self.assertEqual(starts_in_time(regimes, "month", 200, 100), [(195, 201)])
        self.assertIsNone(least_inversion(regimes, "month", 100, 200))
        for low, high in ((100, 201), (101, 100), (-1, 5), (999999, 1000001)):
            with self.assertRaises(OutOfRange):
                starts_in_time(regimes, "month", high, low)
            with self.assertRaises(OutOfRange):
                least_inversion(regimes, "month", low, high)

    def test_least_inversion(self):
        regimes = two("old", LONG, SHORT)
        self.assertEqual(least_inversion(regimes, "month", 60, 160), (86, 100))
        self.assertEqual(least_inversion(regimes, "month", 90, 120), (90, 100))
        self.assertEqual(least_inversion(regimes, "month", 90, 100), (90, 100))
        self.assertEqual(least_inversion(regimes, "month", 99, 100), (99, 100))
        self.assertIsNone(least_inversion(regimes, "month", 60, 99))
        self.assertIsNone(least_inversion(regimes, "month", 100, 200))
        self.assertIsNone(least_inversion(regimes, "month", 99, 99))
        self.assertEqual(least_inversion(two("kind", LONG, SHORT), "month", 60, 160), (86, 100))
        self.assertIsNone(least_inversion(two("new", LONG, SHORT), "month", 60, 160))
        self.assertIsNone(least_inversion(regimes, "year", 60, 160))

    def test_against_the_plain_way(self):
        dice = random.Random(26)
        for near in (60, 730500, 999970) * 12:
            regimes = makers.regimes(dice, near)
            told = plain.Regimes(regimes)
            low = max(0, near - 50)
            high = min(1000000, low + dice.choice((0, 40, 100)))
            lasts = [(start, plain_last(told, start, "month")) for start in range(low, high + 1)]
            lasts = [(start, last) for start, last in lasts if last is not None]
            self.assertEqual(starts_in_time(regimes, "month", high, low),
                             runs_of([start for start, last in lasts if last >= high]))
            pairs = [(start, later) for start, last in lasts for later, other in lasts
                     if start < later and last > other]
            self.assertEqual(least_inversion(regimes, "month", low, high), min(pairs, default=None))
            # There is none exactly if on each day the starts in time are the greatest ones.
            greatest = True
            for day in range(low, 1000001 if high > 999900 else high + 500):
                flags = [last >= day for start, last in lasts if start <= day]
                greatest = greatest and flags == sorted(flags)
            self.assertIs(pairs == [], greatest)

    def test_no_inversion_with_the_way_new(self):
        dice = random.Random(28)
        for _ in range(60):
            way, rows = makers.regimes(dice, 730500)
            regimes = ("new", tuple((first, (calendar, (("month", makers.rule(dice)),)))
                                    for first, (calendar, _) in rows))
            self.assertIsNone(least_inversion(regimes, "month", 730450, 730550), regimes)


class SharedWithNobody(unittest.TestCase):
    def test_answers_may_be_changed(self):
        regimes = two("old", LONG, SHORT)
        history(regimes, 90, "month").clear()
        starts_in_time(regimes, "month", 110, 20).clear()
        self.assertEqual(history(regimes, 90, "month"), [(0, 110)])
        self.assertEqual(starts_in_time(regimes, "month", 110, 20), [(90, 100), (105, 111)])


if __name__ == "__main__":
    unittest.main()
