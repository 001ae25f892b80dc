"""Points 151 to 156: demand and supply of one bench, lacks, bursts, fewest judges, shortest terms."""

import itertools
import math
import random
import unittest

from docketloom.bounds import Promise, is_within, start_state
from docketloom.courses import dealings, earliest_first, next_morning
from docketloom.demand import burst, demand, first_lack, most_absent, most_filed, period, supply
from docketloom.errors import NotThere, OutOfRange, Refused, TooMuch
from docketloom.games import can_keep
from docketloom.least import fewest_judges, shortest_term
from odd import same
from promising import one_bench, random_course, random_promise

NOT_ONE = Promise(2, [((0, 1), 1, 3, 2), ((1,), 0, 1, 3)], (1, 4))
ONE = Promise(2, [((0, 1), 1, 3, 2), ((0, 1), 0, 1, 3)], (1, 4))


def most_over_rows(most, bound, days):
    """The greatest sum of all rows of so many days, with numbers up to most, that keep the bound."""
    count, window = bound
    best = 0
    for row in itertools.product(range(most + 1), repeat=days):
        if all(sum(row[at:at + window]) <= count for at in range(days)):
            best = max(best, sum(row))
    return best


class Numbers(unittest.TestCase):
    def test_most_against_all_rows(self):
        for count, window, days in itertools.product((1, 2, 3), (1, 2, 3, 4), (1, 2, 3, 4, 5, 6)):
            promise = Promise(1, [((0,), 0, count, window)], (0, 1))
            self.assertEqual(most_filed(promise, 0, days), most_over_rows(count, (count, window), days))
        for judges, count, window, days in itertools.product((1, 2, 3), (0, 1, 2, 3, 5), (1, 2, 3), (1, 2, 3, 4, 5)):
            promise = Promise(judges, [(tuple(range(judges)), 0, 1, 1)], (count, window))
            self.assertEqual(most_absent(promise, days), most_over_rows(judges, (count, window), days))

    def test_demand_and_supply(self):
        dice = random.Random(152)
        for _ in range(200):
            promise = one_bench(dice)
            n = dice.choice((1, 2, 3, 8, 9, 50, 100000, dice.randint(1, 1000)))
            told = [most_filed(promise, at, n - kind[1]) for at, kind in enumerate(promise.kinds) if n > kind[1]]
            self.assertTrue(same(demand(promise, n), sum(told)))
            self.assertTrue(same(supply(promise, n), promise.judges * n - most_absent(promise, n)))
            self.assertEqual(period(promise), math.lcm(promise.absences[1], *(kind[3] for kind in promise.kinds)))

    def test_bounds_of_n(self):
        for ask in (lambda n: most_filed(ONE, 0, n), lambda n: most_absent(ONE, n), lambda n: demand(ONE, n),
                    lambda n: supply(ONE, n)):
            for n in (0, -1, 100001, 10 ** 30):
                with self.assertRaises(OutOfRange):
                    ask(n)
            ask(1)
            ask(100000)
        for n in (0, 401):
            with self.assertRaises(OutOfRange):
                burst(ONE, n)
        self.assertEqual((len(burst(ONE, 1)), len(burst(ONE, 400))), (1, 400))

    def test_which_error_comes_first(self):
        for n in (0, 100001):
            with self.assertRaises(OutOfRange):
                most_filed(NOT_ONE, 2, n)
            for ask in (most_absent, demand, supply, burst):
                with self.assertRaises(OutOfRange):
                    ask(NOT_ONE, n)
        for kind in (2, -1, 4):
            with self.assertRaises(NotThere):
                most_filed(NOT_ONE, kind, 5)
            with self.assertRaises(NotThere):
                most_filed(ONE, kind, 5)
            with self.assertRaises(OutOfRange):
                most_filed(ONE, kind, 0)
            for promise in (ONE, NOT_ONE):
                with self.assertRaises(NotThere):
                    shortest_term(promise, kind)
        with self.assertRaises(Refused):
            most_filed(NOT_ONE, 1, 5)
        for ask in (most_absent, demand, supply, burst):
            with self.assertRaises(Refused):
                ask(NOT_ONE, 5)
        for ask in (period, first_lack, fewest_judges):
            with self.assertRaises(Refused):
                ask(NOT_ONE)

    def test_document(self):
        self.assertEqual((demand(ONE, 2), supply(ONE, 2), first_lack(ONE)), (4, 3, 2))


class Lacks(unittest.TestCase):
    def looked_at(self, promise, most):
        return next((n for n in range(1, most + 1) if demand(promise, n) > supply(promise, n)), None)

    def test_first_lack_looking_at_each(self):
        dice = random.Random(153)
        early = late = never = 0
        for _ in range(250):
            promise = one_bench(dice)
            n = first_lack(promise)
            if n is None:
                never += 1
                self.assertIsNone(self.looked_at(promise, 300))
            else:
                self.assertEqual(self.looked_at(promise, n), n)
                early += n <= 10
                late += n > 20
        self.assertGreater(min(early, never), 20)
        self.assertGreater(late, 0)

    def test_late_ones(self):
        # What is missing grows slowly, from one sixty days to the next.
        for kinds, absences, told in (
                ([(8, 8, 5), (8, 2, 2), (6, 7, 6)], (1, 4), 889), ([(7, 8, 3), (6, 3, 4)], (3, 5), 851),
                ([(4, 3, 5), (7, 5, 4), (8, 6, 4)], (2, 3), 805), ([(4, 3, 4), (6, 5, 2), (7, 1, 6)], (3, 5), 741),
                ([(4, 2, 5), (4, 5, 3), (6, 1, 5), (7, 7, 4)], (0, 1), 740)):
            promise = Promise(4, [((0, 1, 2, 3),) + kind for kind in kinds], absences)
            self.assertEqual(first_lack(promise), told)
            self.assertEqual(self.looked_at(promise, told), told)

    def test_games_and_lacks(self):
        dice = random.Random(1520)
        many = 0
        for _ in range(400):
            promise = one_bench(dice, judges=3, kinds=2, term=2, count=2, window=3)
            try:
                kept = can_keep(promise)
            except TooMuch:
                continue
            many += 1
            self.assertIs(kept, first_lack(promise) is None)
        self.assertGreater(many, 200)


class Bursts(unittest.TestCase):
    def told(self, promise, n):
        """The burst, day by day, by the words."""
        count, window = promise.absences
        course = []
        for day in range(n):
            filed = tuple(kind[2] if day % kind[3] == 0 and day + kind[1] <= n - 1 else 0 for kind in promise.kinds)
            absent = 0
            while absent < promise.judges and absent + sum(
                    len(course[other][1]) for other in range(max(0, day - window + 1), day)) < count:
                absent += 1
            course.append((filed, tuple(range(absent))))
        return course

    def test_against_words(self):
        dice = random.Random(154)
        for _ in range(150):
            promise = one_bench(dice)
            n = dice.choice((1, 2, 5, 9, 30, dice.randint(1, 60)))
            course = burst(promise, n)
            self.assertTrue(same(course, self.told(promise, n)))
            self.assertIs(is_within(promise, course), True)
            if first_lack(promise) == n:
                self.assertEqual(sum(sum(filed) for filed, _ in course), demand(promise, n))

    def test_a_cause_falls_whatever_is_dealt(self):
        dice = random.Random(1540)
        many = 0
        while many < 60:
            promise = one_bench(dice, judges=3, kinds=2, term=2, count=3, window=3)
            n = first_lack(promise)
            if n is None or n > 6:
                continue
            many += 1
            states = {start_state(promise)}
            for move in burst(promise, n):
                states = {next_morning(promise, state, move, dealing)
                          for state in states for dealing in dealings(promise, state, move)} - {None}
            self.assertEqual(states, set())

    def test_earliest_first_keeps(self):
        dice = random.Random(155)
        many = 0
        while many < 60:
            promise = one_bench(dice)
            if first_lack(promise) is not None:
                continue
            many += 1
            state = start_state(promise)
            for move in random_course(dice, promise, 60):
                state = next_morning(promise, state, move, earliest_first(promise, state, move))
                self.assertIsNotNone(state)


class Least(unittest.TestCase):
    def lacks(self, judges, promise):
        """True if so many judges lack something for some n, looking at each."""
        count, window = promise.absences
        least = min(count, judges * window)
        for n in range(1, 600):
            asked = sum(kind[2] * -(-(n - kind[1]) // kind[3]) for kind in promise.kinds if kind[1] < n)
            if asked > judges * n - least * (n // window) - min(least, judges * (n % window)):
                return True
        return False

    def test_fewest_judges(self):
        dice = random.Random(156)
        found = {}
        for _ in range(100):
            promise = one_bench(dice)
            fewest = fewest_judges(promise)
            found[fewest] = True
            if fewest <= 4:
                told = Promise(fewest, [(tuple(range(fewest)),) + kind[1:] for kind in promise.kinds], promise.absences)
                self.assertIsNone(first_lack(told))
            if 1 < fewest <= 5:
                told = Promise(fewest - 1, [(tuple(range(fewest - 1)),) + kind[1:] for kind in promise.kinds],
                               promise.absences)
                self.assertIsNotNone(first_lack(told))
            self.assertFalse(self.lacks(fewest, promise))
        self.assertGreater(len(found), 5)
        every = [((0,), 0, 8, 1)] * 4
        self.assertEqual(fewest_judges(Promise(1, every, (8, 1))), 40)
        self.assertEqual(fewest_judges(Promise(1, every, (0, 1))), 32)
        self.assertEqual(fewest_judges(Promise(1, [((0,), 0, 1, 1)], (0, 1))), 1)

    def test_fewest_judges_tries_each(self):
        # Without slow growth, what is lacking is seen within a few hundred days.
        dice = random.Random(1560)
        for _ in range(80):
            promise = one_bench(dice, window=3)
            fewest = fewest_judges(promise)
            told = [judges for judges in range(1, 41) if not self.lacks(judges, promise)]
            self.assertEqual(told, list(range(fewest, 41)))

    def test_shortest_term_of_one_bench(self):
        dice = random.Random(1561)
        found = {}
        for _ in range(150):
            promise = one_bench(dice)
            for at, kind in enumerate(promise.kinds):
                told = None
                for term in range(kind[1] + 1):
                    rows = list(promise.kinds)
                    rows[at] = (kind[0], term) + kind[2:]
                    if first_lack(Promise(promise.judges, rows, promise.absences)) is None:
                        told = term
                        break
                self.assertTrue(same(shortest_term(promise, at), told))
                found[told] = True
        self.assertGreater(len(found), 4)

    def test_shortest_term_by_games(self):
        dice = random.Random(1562)
        found = {}
        for _ in range(120):
            promise = random_promise(dice, terms=(1, 2, 3), windows=(2, 3))
            if all(len(kind[0]) == promise.judges for kind in promise.kinds):
                continue
            for at, kind in enumerate(promise.kinds):
                told = None
                try:
                    for term in range(kind[1], -1, -1):
                        rows = list(promise.kinds)
                        rows[at] = (kind[0], term) + kind[2:]
                        if not can_keep(Promise(promise.judges, rows, promise.absences)):
                            break
                        told = term
                except TooMuch:
                    with self.assertRaises(TooMuch):
                        shortest_term(promise, at)
                    continue
                self.assertTrue(same(shortest_term(promise, at), told))
                found[told] = True
        self.assertGreater(len(found), 2)

    def test_shortest_term_too_much(self):
        rows = [((0,), 8, 8, 6), ((1,), 8, 8, 6)]
        with self.assertRaises(TooMuch):
            shortest_term(Promise(2, rows, (0, 1)), 0)
        # Of one bench, the states do not matter.
        rows = [((0, 1), 8, 8, 6), ((0, 1), 8, 4, 6)]
        self.assertEqual(shortest_term(Promise(2, rows, (0, 1)), 0), 3)

    def test_more_never_hurts(self):
        dice = random.Random(1563)
        many = 0
        for _ in range(300):
            promise = random_promise(dice, 2)
            try:
                if not can_keep(promise):
                    continue
            except TooMuch:
                continue
            at = dice.randrange(len(promise.kinds))
            rights, term, count, window = promise.kinds[at]
            for judges, kind, absences in (
                    (promise.judges, (rights, term + 1, count, window), promise.absences),
                    (promise.judges, (rights, term, max(1, count - 1), window), promise.absences),
                    (promise.judges, (rights, term, count, window + 1), promise.absences),
                    (promise.judges, (tuple(range(promise.judges)), term, count, window), promise.absences),
                    (promise.judges + 1, (rights, term, count, window), promise.absences),
                    (promise.judges, promise.kinds[at], (max(0, promise.absences[0] - 1), promise.absences[1])),
                    (promise.judges, promise.kinds[at], (promise.absences[0], promise.absences[1] + 1))):
                rows = list(promise.kinds)
                rows[at] = kind
                try:
                    self.assertIs(can_keep(Promise(judges, rows, absences)), True)
                    many += 1
                except TooMuch:
                    pass
        self.assertGreater(many, 100)


if __name__ == "__main__":
    unittest.main()
