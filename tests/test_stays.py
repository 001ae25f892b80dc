"""Points 65 to 76: stays, and terms under them."""

import random
import unittest

import makers
import plain
from docketloom import regimes as bare
from docketloom.civil import day_of
from docketloom.errors import NotThere, OutOfRange, Refused
from docketloom.running import (is_in_time, last_day, last_under, left_on, paper_under, shows_under, starts_in_time)
from docketloom.stays import is_stay, is_stays, lifted, state_of, touching, union_of
from docketloom.terms import last_day as last_without
from docketloom.terms import paper_of
from odd import ODD, is_plain, mutants, same

NONE = ((), (), (), ())
WEEKEND = ((5, 6), (), (), ())
GOOD = ("party", "ann", 5, 9, "anew")
FAR = 2000000


def rests(first, behind):
    return ("all", "", first, behind, "rests")


def anew(first, behind):
    return ("all", "", first, behind, "anew")


def told_or(ask, *values):
    """The answer, or the word none if there is no last day."""
    try:
        return ask(*values)
    except NotThere:
        return "none"


class IsStay(unittest.TestCase):
    def test_good_ones(self):
        for stay in (GOOD, ("all", "", 0, None, "rests"), ("cause", "trial", 999999, 1000000, "rests"),
                     ("party", "a", 1000000, None, "anew"), ("all", "", 3, 4, "anew"), ("cause", "court", 3, 4, "anew")):
            self.assertIs(is_stay(stay), True, stay)
            self.assertIs(is_stays((stay, stay)), True)

    def test_bad_ones(self):
        for stay in (("all", "ann", 0, 5, "rests"), ("cause", "", 0, 5, "rests"), ("party", None, 0, 5, "rests"),
                     ("court", "a", 0, 5, "rests"), ("all", "", 5, 5, "rests"), ("all", "", 5, 4, "rests"),
                     ("all", "", -1, 5, "rests"), ("all", "", 1000000, 1000001, "rests"), ("all", "", 0, 5, "runs"),
                     ("all", "", True, 5, "rests"), ("all", "", 0, True, "rests"), ("all", "", None, 5, "rests"),
                     ("all", "", 0, 5), ("all", "", 0, 5, "rests", 0), ["all", "", 0, 5, "rests"],
                     ("all", None, 0, 5, "rests"), ("cause", "A", 0, 5, "rests"), ("all", "", 0, 5.0, "rests")):
            self.assertIs(is_stay(stay), False, stay)
            self.assertIs(is_stays((stay,)), False, stay)

    def test_how_many(self):
        self.assertIs(is_stays(()), True)
        self.assertIs(is_stays((GOOD,) * 100), True)
        self.assertIs(is_stays((GOOD,) * 101), False)
        self.assertIs(is_stays([GOOD]), False)
        self.assertIs(is_stays(GOOD), False)

    def test_values_of_every_kind(self):
        self.assertEqual([value for value in ODD if is_stay(value)], [("all", "", 0, None, "rests")])
        self.assertEqual([value for value in ODD if is_stays(value)], [()])
        for good in (GOOD, ("all", "", 0, None, "rests")):
            for value in mutants(good):
                answer = is_stay(value)
                self.assertIn(answer, (True, False))
                if not is_plain(value):
                    self.assertIs(answer, False, value)
            for value in mutants((good,)):
                answer = is_stays(value)
                self.assertIn(answer, (True, False))
                if not is_plain(value):
                    self.assertIs(answer, False, value)


class Touching(unittest.TestCase):
    def test_scopes(self):
        whole = rests(0, 5)
        cause = ("cause", "one", 0, 5, "rests")
        party = ("party", "ann", 0, 5, "rests")
        stays = (party, whole, cause, ("party", "one", 0, 5, "rests"), ("cause", "ann", 0, 5, "rests"), whole)
        self.assertEqual(touching(stays, "one", "ann"), (party, whole, cause, whole))
        self.assertEqual(touching(stays, "two", "ann"), (party, whole, whole))
        self.assertEqual(touching(stays, "one", "bob"), (whole, cause, whole))
        self.assertEqual(touching(stays, "two", "bob"), (whole, whole))
        self.assertEqual(touching((), "one", "ann"), ())


class States(unittest.TestCase):
    def test_states(self):
        stays = (rests(5, 10), anew(8, 12), rests(20, None))
        self.assertEqual([state_of(stays, day) for day in (4, 5, 7, 8, 11, 12, 19, 20, 1000000)],
                         ["runs", "rests", "rests", "anew", "anew", "runs", "runs", "rests", "rests"])
        for day in (-1, 1000001):
            with self.assertRaises(OutOfRange):
                state_of(stays, day)

    def test_unions(self):
        self.assertEqual(union_of(()), ())
        self.assertEqual(union_of((rests(5, 10),)), ((5, 10, "rests"),))
        self.assertEqual(union_of((rests(10, 20), rests(5, 10))), ((5, 20, "rests"),))
        self.assertEqual(union_of((rests(5, 12), rests(10, 20), rests(10, 20))), ((5, 20, "rests"),))
        self.assertEqual(union_of((rests(5, 10), anew(10, 20))), ((5, 10, "rests"), (10, 20, "anew")))
        self.assertEqual(union_of((rests(5, 30), anew(10, 20))), ((5, 10, "rests"), (10, 20, "anew"), (20, 30, "rests")))
        self.assertEqual(union_of((anew(5, 30), rests(10, 20))), ((5, 30, "anew"),))
        self.assertEqual(union_of((anew(5, 30), rests(5, 30))), ((5, 30, "anew"),))
        self.assertEqual(union_of((rests(0, None), rests(7, 9))), ((0, None, "rests"),))
        self.assertEqual(union_of((rests(0, 7), rests(7, None))), ((0, None, "rests"),))
        self.assertEqual(union_of((rests(5, None), anew(7, 9))), ((5, 7, "rests"), (7, 9, "anew"), (9, None, "rests")))
        self.assertEqual(union_of((rests(5, None), anew(7, None), anew(6, None))), ((5, 6, "rests"), (6, None, "anew")))
        self.assertEqual(union_of((rests(1000000, None),)), ((1000000, None, "rests"),))
        self.assertEqual(union_of((("party", "a", 5, 9, "rests"), ("cause", "b", 9, 11, "rests"))), ((5, 11, "rests"),))

    def test_against_the_states(self):
        dice = random.Random(66)
        for _ in range(200):
            stays = makers.stays(dice, 70, 60, many=8)
            told = union_of(stays)
            for day in range(0, 220):
                found = [state for first, behind, state in told if first <= day and (behind is None or day < behind)]
                self.assertEqual(found or ["runs"], [plain.day_state(stays, day)])
                self.assertEqual(state_of(stays, day), plain.day_state(stays, day))
            self.assertEqual(list(told), sorted(told))
            for one, other in zip(told, told[1:]):
                self.assertTrue(one[1] < other[0] or (one[1] == other[0] and one[2] != other[2]))
            shuffled = list(stays) + list(stays[:1])
            dice.shuffle(shuffled)
            self.assertEqual(union_of(tuple(shuffled)), told)


class Lifted(unittest.TestCase):
    STAYS = (rests(5, 10), ("cause", "one", 20, None, "anew"), rests(30, 40))

    def test_lifted(self):
        self.assertEqual(lifted(self.STAYS, 0, 9), (rests(5, 9),) + self.STAYS[1:])
        self.assertEqual(lifted(self.STAYS, 1, 500), (self.STAYS[0], ("cause", "one", 20, 500, "anew"), self.STAYS[2]))
        self.assertEqual(lifted(self.STAYS, 0, 6), (rests(5, 6),) + self.STAYS[1:])

    def test_taken_out(self):
        self.assertEqual(lifted(self.STAYS, 0, 5), self.STAYS[1:])
        self.assertEqual(lifted(self.STAYS, 1, 0), (self.STAYS[0], self.STAYS[2]))
        self.assertEqual(lifted(self.STAYS, 2, 30), self.STAYS[:2])

    def test_errors(self):
        for day in (10, 11, 1000000):
            with self.assertRaises(Refused):
                lifted(self.STAYS, 0, day)
        for number in (-1, 3, 100):
            with self.assertRaises(NotThere):
                lifted(self.STAYS, number, 50)
            with self.assertRaises(OutOfRange):
                lifted(self.STAYS, number, 1000001)
        with self.assertRaises(NotThere):
            lifted((), 0, 50)
        for day in (-1, 1000001):
            with self.assertRaises(OutOfRange):
                lifted(self.STAYS, 0, day)


class Terms(unittest.TestCase):
    def test_rests(self):
        rule = (5, "days", "next", "no", 0)
        self.assertEqual(last_under(NONE, rule, (), 10), 15)
        self.assertEqual(last_under(NONE, rule, (rests(12, 20),), 10), 23)
        self.assertEqual(paper_under(NONE, rule, (rests(12, 20),), 10), (10, 5, ((11, 12), (20, 24)), 23, 23))
        self.assertEqual(last_under(NONE, rule, (rests(10, 11),), 10), 15)
        self.assertEqual(last_under(NONE, (5, "days", "day", "no", 0), (rests(10, 11),), 10), 15)
        self.assertEqual(last_under(NONE, (2, "weeks", "next", "no", 0), (rests(12, 20),), 10), 32)

    def test_anew(self):
        rule = (5, "days", "next", "no", 0)
        self.assertEqual(paper_under(NONE, rule, (anew(12, 20),), 10), (19, 5, ((20, 25),), 24, 24))
        self.assertEqual(paper_under(NONE, rule, (anew(15, 16),), 10), (15, 5, ((16, 21),), 20, 20))
        self.assertEqual(paper_under(NONE, rule, (anew(16, 17),), 10), (10, 5, ((11, 16),), 15, 15))
        self.assertEqual(paper_under(NONE, rule, (anew(10, 11),), 10), (10, 5, ((11, 16),), 15, 15))
        self.assertEqual(paper_under(NONE, (5, "days", "day", "no", 0), (anew(10, 11),), 10),
                         (10, 5, ((11, 16),), 15, 15))

    def test_months_begin_anew(self):
        rule = (1, "months", "next", "no", 0)
        start = day_of(2001, 1, 10)
        again = day_of(2001, 1, 31)
        self.assertEqual(paper_under(NONE, rule, (anew(again, again + 1),), start),
                         (again, 28, ((again + 1, again + 29),), again + 28, again + 28))
        rule = (1, "months", "day", "no", 0)
        self.assertEqual(paper_under(NONE, rule, (anew(again, again + 1),), start),
                         (again, 28, ((again + 1, again + 29),), again + 28, again + 28))
        before = again - 1
        self.assertEqual(paper_under(NONE, rule, (anew(before, before + 1),), start),
                         (before, 28, ((again, again + 28),), again + 27, again + 27))
        self.assertEqual(paper_under(NONE, (1, "months", "next", "no", 0), (anew(before, before + 1),), start),
                         (before, 29, ((again, again + 29),), again + 28, again + 28))

    def test_need_of_nought(self):
        self.assertEqual(paper_under(NONE, (0, "days", "next", "no", 0), (anew(0, 50),), 10), (10, 0, (), 10, 10))
        self.assertEqual(last_under(NONE, (0, "days", "next", "on", 0), (rests(5, 50),), 10), 50)
        self.assertEqual(last_under(NONE, (0, "days", "next", "back", 0), (rests(5, 50),), 10), 10)
        self.assertIsNone(last_under(NONE, (0, "days", "next", "on", 0), (rests(5, None),), 10))
        self.assertEqual(last_under(NONE, (0, "days", "next", "no", 0), (rests(5, None),), 10), 10)

    def test_free_days(self):
        # The days 14, 15, 21, 22 are a weekend.
        rule = (5, "days", "next", "on", 0)
        self.assertEqual(last_under(WEEKEND, rule, (rests(16, 19),), 9), 19)
        self.assertEqual(last_under(WEEKEND, rule, (rests(16, 21),), 9), 23)
        self.assertIsNone(last_under(WEEKEND, rule, (rests(15, None),), 9))
        rule = (5, "days", "next", "back", 0)
        self.assertEqual(last_under(WEEKEND, rule, (), 9), 13)
        self.assertEqual(last_under(WEEKEND, rule, (rests(12, 13),), 8), 13)
        self.assertEqual(last_under(WEEKEND, rule, (rests(15, None),), 9), 13)

    def test_floor_of_the_roll_back(self):
        rule = (1, "days", "next", "back", 0)
        self.assertEqual(last_under(WEEKEND, rule, (), 13), 13)
        # It begins anew on the day 13 itself (a Friday), and the day 14 is no open day: the floor is 14.
        self.assertEqual(last_under(WEEKEND, rule, (anew(13, 14),), 12), 14)
        self.assertEqual(last_under(WEEKEND, (2, "days", "next", "back", 0), (anew(12, 13),), 11), 13)
        self.assertEqual(last_under(WEEKEND, (2, "days", "next", "back", 0), (anew(13, 14),), 10), 12)
        self.assertEqual(last_under(WEEKEND, (2, "days", "next", "back", 0), (anew(13, 14),), 11), 14)
        self.assertEqual(last_under(WEEKEND, (3, "days", "next", "back", 0), (anew(13, 14),), 11), 16)
        # Without a free day up to the full day the start is the last day.
        self.assertEqual(last_under(WEEKEND, (1, "days", "next", "back", 0), (), 14), 14)

    def test_standing_still(self):
        rule = (5, "days", "next", "no", 0)
        self.assertIsNone(last_under(NONE, rule, (rests(12, None),), 10))
        self.assertIsNone(last_under(NONE, rule, (anew(15, None),), 10))
        self.assertIsNone(paper_under(NONE, rule, (rests(12, None),), 10))
        self.assertEqual(last_under(NONE, rule, (rests(16, None),), 10), 15)
        self.assertIsNone(last_under(NONE, rule, (rests(5, None),), 10))
        self.assertIsNone(last_under(NONE, rule, (rests(1000000, None),), 999995))
        self.assertIsNone(last_under(NONE, rule, (rests(1000000, None),), 1000000))
        self.assertEqual(last_under(NONE, rule, (rests(1000000, None),), 999994), 999999)

    def test_no_last_day(self):
        rule = (5, "days", "next", "no", 0)
        for stays in ((), (rests(0, 10),), (anew(999990, 1000000),), (rests(999999, 1000000),)):
            for ask in (last_under, paper_under):
                with self.assertRaises(NotThere):
                    ask(NONE, rule, stays, 999996)
            self.assertIs(shows_under(NONE, rule, stays, 999996, None), False)
        self.assertEqual(last_under(NONE, rule, (rests(999990, 999991),), 999995), 1000000)
        with self.assertRaises(NotThere):
            last_under(NONE, rule, (rests(999996, 999997),), 999995)
        with self.assertRaises(NotThere):
            last_under(NONE, rule, (anew(999990, 1000000),), 999988)

    def test_wrong_papers(self):
        rule = (6, "open", "next", "on", 0)
        stays = (rests(5, 6), anew(3, 4))
        good = paper_under(WEEKEND, rule, stays, 2)
        self.assertEqual(good, (3, 6, ((4, 5), (6, 7), (9, 13)), 12, 12))
        self.assertIs(shows_under(WEEKEND, rule, stays, 2, good), True)
        for value in mutants(good):
            self.assertIs(shows_under(WEEKEND, rule, stays, 2, value), same(value, good), value)
        for value in ODD:
            self.assertIs(shows_under(WEEKEND, rule, (rests(3, None),), 2, value), value is None)

    def test_no_day(self):
        rule = (1, "days", "next", "no", 0)
        for day in (-1, 1000001):
            for ask in (last_under, paper_under):
                with self.assertRaises(OutOfRange):
                    ask(NONE, rule, (), day)
            with self.assertRaises(OutOfRange):
                shows_under(NONE, rule, (), day, None)
            with self.assertRaises(OutOfRange):
                left_on(NONE, rule, (), day, 5)
            with self.assertRaises(OutOfRange):
                left_on(NONE, rule, (), 5, day)
        with self.assertRaises(OutOfRange):
            left_on(NONE, rule, (), 5, 4)


class AgainstThePlainWay(unittest.TestCase):
    def test_terms(self):
        dice = random.Random(67)
        for near in (60, 730500, 999930) * 50:
            calendar = makers.calendar(dice, near, 120)
            kinds = plain.Kinds(calendar)
            for _ in range(10):
                rule = makers.rule(dice)
                stays = makers.stays(dice, near)
                start = max(0, min(1000000, near + dice.randint(-60, 60)))
                try:
                    told = plain.paper(kinds, rule, stays, start)
                except plain.NoLastDay:
                    for ask in (last_under, paper_under):
                        with self.assertRaises(NotThere):
                            ask(calendar, rule, stays, start)
                    self.assertIs(shows_under(calendar, rule, stays, start, None), False)
                    continue
                self.assertEqual(paper_under(calendar, rule, stays, start), told, (calendar, rule, stays, start))
                self.assertEqual(last_under(calendar, rule, stays, start), None if told is None else told[4])
                self.assertIs(shows_under(calendar, rule, stays, start, told), True)
                self.assertIs(shows_under(calendar, rule, stays, start, None), told is None)

    def test_what_is_left(self):
        dice = random.Random(70)
        for near in (60, 730500, 999960) * 40:
            calendar = makers.calendar(dice, near, 120)
            kinds = plain.Kinds(calendar)
            rule = makers.rule(dice)
            stays = makers.stays(dice, near)
            start = max(0, min(1000000, near + dice.randint(-40, 10)))
            for _ in range(15):
                day = min(1000000, start + dice.choice((0, 1, 2, dice.randint(0, 120))))
                self.assertEqual(left_on(calendar, rule, stays, start, day), plain.left(kinds, rule, stays, start, day))

    def test_regimes(self):
        dice = random.Random(74)
        for near in (100, 730500, 999950) * 40:
            regimes = makers.regimes(dice, near)
            told = plain.Regimes(regimes)
            for _ in range(8):
                stays = makers.stays(dice, near)
                start = max(0, min(1000000, near + dice.randint(-80, 80)))
                word = dice.choice(("month", "week"))
                try:
                    last = told.last(stays, start, word)
                except (KeyError, plain.NoLastDay):
                    with self.assertRaises(NotThere):
                        last_day(regimes, stays, start, word)
                    with self.assertRaises(NotThere):
                        is_in_time(regimes, stays, start, word, 0)
                    continue
                self.assertEqual(last_day(regimes, stays, start, word), last, (regimes, stays, start, word))
                for day in (start - 1, start, start + 1, 1000000, last or 0, (last or 0) + 1):
                    if 0 <= day <= 1000000:
                        self.assertIs(is_in_time(regimes, stays, start, word, day),
                                      start <= day and (last is None or day <= last))

    def test_starts_in_time(self):
        dice = random.Random(75)
        for near in (60, 730500, 999970) * 10:
            regimes = makers.regimes(dice, near)
            told = plain.Regimes(regimes)
            stays = makers.stays(dice, near)
            low = max(0, near - 50)
            high = min(1000000, low + dice.choice((0, 40, 100)))
            found = []
            for start in range(low, high + 1):
                try:
                    last = told.last(stays, start, "month")
                except (KeyError, plain.NoLastDay):
                    continue
                if last is None or last >= high:
                    found.append(start)
            runs = starts_in_time(regimes, stays, "month", high, low)
            self.assertEqual([day for first, behind in runs for day in range(first, behind)], found)
            for one, other in zip(runs, runs[1:]):
                self.assertLess(one[1], other[0])


class Left(unittest.TestCase):
    def test_from_the_start_on(self):
        rule = (3, "days", "next", "no", 0)
        self.assertEqual([left_on(NONE, rule, (), 10, day) for day in range(10, 16)], [3, 2, 1, 0, 0, 0])
        self.assertEqual([left_on(NONE, rule, (rests(11, 13),), 10, day) for day in range(10, 17)],
                         [3, 3, 3, 2, 1, 0, 0])
        self.assertEqual([left_on(NONE, rule, (anew(12, 13),), 10, day) for day in range(10, 17)],
                         [3, 2, 3, 2, 1, 0, 0])
        self.assertEqual([left_on(NONE, rule, (anew(14, 30),), 10, day) for day in range(10, 17)],
                         [3, 2, 1, 0, 0, 0, 0])
        self.assertEqual([left_on(NONE, (3, "days", "day", "no", 0), (), 10, day) for day in range(10, 14)],
                         [2, 1, 0, 0])
        self.assertEqual(left_on(NONE, rule, (rests(12, None),), 10, 1000000), 2)
        self.assertEqual(left_on(NONE, rule, (), 1000000, 1000000), 3)
        self.assertEqual(left_on(NONE, (0, "days", "next", "on", 0), (rests(0, None),), 10, 10), 0)

    def test_months_that_begin_anew_on_the_last_day(self):
        for since in ("day", "next"):
            rule = (1, "months", since, "no", 0)
            self.assertEqual(left_on(NONE, rule, (anew(0, None),), 5, 1000000), 30)
        self.assertEqual(left_on(NONE, (1000, "months", "day", "no", 0), (anew(0, None),), 5, 1000000),
                         plain.months_later(1000001, 1000) - 1000001)

    def test_a_stay_that_may_yet_be_lifted(self):
        dice = random.Random(73)
        for _ in range(40):
            calendar = makers.calendar(dice, 300, 100)
            rule = makers.rule(dice)
            stays = makers.stays(dice, 300, may_be_open=False) + (rests(310, None),)
            number = len(stays) - 1
            for day in range(311, 340, 4):
                told = [left_on(calendar, rule, lifted(stays, number, later), 300, day) for later in range(day + 1, 345)]
                self.assertEqual(set(told), {left_on(calendar, rule, stays, 300, day)})


class WhatChangesNothing(unittest.TestCase):
    def test_without_stays(self):
        dice = random.Random(71)
        for near in (60, 730500, 999960) * 20:
            calendar = makers.calendar(dice, near, 120)
            rule = makers.rule(dice)
            start = max(0, min(1000000, near + dice.randint(-40, 40)))
            self.assertEqual(told_or(last_under, calendar, rule, (), start), told_or(last_without, calendar, rule, start))
            self.assertEqual(told_or(paper_under, calendar, rule, (), start), told_or(paper_of, calendar, rule, start))
            regimes = makers.regimes(dice, near)
            self.assertEqual(told_or(last_day, regimes, (), start, "month"),
                             told_or(bare.last_by, regimes, start, "month"))

    def test_stays_ahead_and_behind(self):
        dice = random.Random(710)
        for _ in range(60):
            calendar = makers.calendar(dice, 730500, 120)
            rule = makers.rule(dice)
            paper = paper_of(calendar, rule, 730500)
            behind = max(paper[3], paper[4]) + 1
            stays = (dice.choice((rests, anew))(730400, 730500), dice.choice((rests, anew))(behind, behind + 40),
                     dice.choice((rests, anew))(behind + 3, None))
            self.assertEqual(paper_under(calendar, rule, stays, 730500), paper)

    def test_taken_out(self):
        dice = random.Random(730)
        for _ in range(60):
            calendar = makers.calendar(dice, 730500, 120)
            rule = makers.rule(dice)
            stays = makers.stays(dice, 730500)
            more = stays + (rests(730495, None),)
            self.assertEqual(told_or(paper_under, calendar, rule, lifted(more, len(stays), 730495), 730490),
                             told_or(paper_under, calendar, rule, stays, 730490))

    def test_one_stay_more(self):
        dice = random.Random(72)
        for _ in range(150):
            calendar = makers.calendar(dice, 730500, 120)
            count, unit, since, roll, short = makers.rule(dice)
            if unit == "months":
                unit = "open"
            rule = (count, unit, since, "on" if roll == "back" else roll, short)
            stays = makers.stays(dice, 730500)
            more = stays + makers.stays(dice, 730500, many=1)
            one = last_under(calendar, rule, stays, 730480)
            other = last_under(calendar, rule, more, 730480)
            self.assertLessEqual(FAR if one is None else one, FAR if other is None else other)

    def test_no_inversion_with_the_way_new(self):
        dice = random.Random(76)
        for _ in range(80):
            _, rows = makers.regimes(dice, 730500)
            changed = []
            for first, (calendar, _) in rows:
                count, unit, since, roll, short = makers.rule(dice)
                if unit == "months":
                    unit = "weeks"
                rule = (count, unit, since, "on" if roll == "back" else roll, short)
                changed.append((first, (calendar, (("month", rule),))))
            stays = makers.stays(dice, 730500)
            lasts = [last_day(("new", tuple(changed)), stays, start, "month") for start in range(730460, 730540)]
            lasts = [FAR if last is None else last for last in lasts]
            self.assertEqual(lasts, sorted(lasts), (changed, stays))


class Regimes(unittest.TestCase):
    def test_standing_still_runs_on_all_days(self):
        rows = ((0, (NONE, (("month", (20, "days", "next", "no", 0)),))),
                (100, (NONE, (("month", (3, "days", "next", "no", 0)),))))
        stays = (rests(95, None),)
        self.assertIsNone(last_day(("old", rows), stays, 90, "month"))
        self.assertIsNone(last_day(("kind", rows), stays, 90, "month"))
        # By the new rule the term ended on the day 93, before the day 100.
        self.assertEqual(last_day(("new", rows), stays, 90, "month"), 100)
        self.assertIsNone(last_day(("new", rows), stays, 93, "month"))
        rolled = rows[:1] + ((100, (NONE, (("month", (3, "days", "next", "on", 0)),))),)
        self.assertIsNone(last_day(("new", rolled), stays, 90, "month"))
        self.assertEqual(last_day(("new", rolled), (rests(95, 120),), 90, "month"), 120)

    def test_a_later_step_may_stand_still(self):
        rows = ((0, (NONE, (("month", (10, "days", "next", "no", 0)),))),
                (95, (NONE, (("month", (30, "days", "next", "no", 0)),))))
        stays = (rests(110, None),)
        self.assertEqual(last_day(("old", rows), stays, 90, "month"), 100)
        self.assertIsNone(last_day(("kind", rows), stays, 90, "month"))
        self.assertIsNone(last_day(("new", rows), stays, 90, "month"))
        self.assertIsNone(last_day(("kind", (rows[0], (95, rows[0][1]), (96, rows[1][1]))), stays, 90, "month"))

    def test_in_time(self):
        regimes = ("old", ((0, (NONE, (("month", (5, "days", "next", "no", 0)),))),))
        stays = (rests(12, None),)
        self.assertIs(is_in_time(regimes, stays, 10, "month", 1000000), True)
        self.assertIs(is_in_time(regimes, stays, 10, "month", 9), False)
        self.assertIs(is_in_time(regimes, stays, 5, "month", 10), True)
        self.assertIs(is_in_time(regimes, stays, 5, "month", 11), False)
        with self.assertRaises(NotThere):
            is_in_time(regimes, stays, 10, "week", 5)

    def test_spans_and_days(self):
        regimes = ("old", ((0, (NONE, (("month", (5, "days", "next", "no", 0)),))),))
        self.assertEqual(starts_in_time(regimes, (), "month", 200, 100), [(195, 201)])
        for low, high in ((100, 201), (101, 100), (-1, 5), (999999, 1000001)):
            with self.assertRaises(OutOfRange):
                starts_in_time(regimes, (), "month", high, low)
        for day in (-1, 1000001):
            with self.assertRaises(OutOfRange):
                last_day(regimes, (), day, "week")
            with self.assertRaises(OutOfRange):
                is_in_time(regimes, (), day, "week", 5)
            with self.assertRaises(OutOfRange):
                is_in_time(regimes, (), 5, "week", day)


if __name__ == "__main__":
    unittest.main()
