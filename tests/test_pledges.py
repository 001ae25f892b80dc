"""Points 157 to 160: pledges, filings, court days, rolls, forfeits."""

import random
import unittest

from docketloom.benches import has_slot, is_bench
from docketloom.books import deal_by, made_book
from docketloom.bounds import is_within, start_state
from docketloom.calendars import kind_of
from docketloom.courses import earliest_first, next_morning, run_course
from docketloom.errors import Malformed, NotThere, OutOfRange, Refused, TooMuch
from docketloom.pledges import counted, course_of, court_days, is_filings, is_pledge, promise_of, suits
from docketloom.rolls import dealt_roll, forfeits, is_sound, roll_by
from odd import ODD, is_plain, mutants, same

ROW = ("claim", 2, 3, 2)
PLEDGE = ((("claim", 1, 1, 1), ("debt", 0, 1, 2)), (1, 3))
WEEK = (0, 1, 2, 3, 4, 5, 6)
ALWAYS = (WEEK, 0, 16, ())
BENCH = ((("ann", ("claim", "debt"), ALWAYS), ("bob", ("claim",), ((0, 1, 2, 3, 4), 2, 9, ((20, 30),)))), ())
PLAIN = ((5, 6), (), (), ())


def other_judges(many):
    return tuple((name, ("claim", "debt"), ALWAYS) for name in "abcdefgh"[:many])


class Pledges(unittest.TestCase):
    def test_good_ones(self):
        for value in (PLEDGE, ((ROW,), (0, 1)), (tuple((name,) + ROW[1:] for name in "abcd"), (8, 6)),
                      ((("a", 0, 1, 1),), (0, 6)), ((("a", 8, 8, 6),), (8, 1))):
            self.assertIs(is_pledge(value), True)

    def test_each_bound(self):
        for row in (("claim", -1, 3, 2), ("claim", 9, 3, 2), ("claim", 2, 0, 2), ("claim", 2, 9, 2), ("claim", 2, 3, 0),
                    ("claim", 2, 3, 7), ("", 2, 3, 2), ("Claim", 2, 3, 2), ("claim", True, 3, 2), ("claim", 2, 3), ROW + (1,),
                    list(ROW), None, ((0,), 2, 3, 2)):
            self.assertIs(is_pledge(((row,), (0, 1))), False, row)
        for value in ((), (((ROW,),)), ((), (0, 1)), (tuple((name,) + ROW[1:] for name in "abcde"), (0, 1)), ((ROW, ROW), (0, 1)),
                      ((("debt",) + ROW[1:], ROW), (0, 1)), ([ROW], (0, 1)), [(ROW,), (0, 1)], ((ROW,), (0, 1), ()),
                      ((ROW,), (-1, 1)), ((ROW,), (9, 1)), ((ROW,), (0, 0)), ((ROW,), (0, 7)), ((ROW,), [0, 1]),
                      ((ROW,), (False, 1)), ((ROW,), None), ((ROW, ("claim", 1, 1, 1)), (0, 1))):
            self.assertIs(is_pledge(value), False, value)

    def test_any_kind(self):
        for value in mutants(PLEDGE):
            answer = is_pledge(value)
            self.assertIn(answer, (True, False))
            if not is_plain(value):
                self.assertIs(answer, False, value)

    def test_suits(self):
        self.assertIs(suits(PLEDGE, BENCH), True)
        for many in range(9):
            self.assertIs(suits(PLEDGE, (other_judges(many), ())), 1 <= many <= 4)
        self.assertIs(suits(PLEDGE, (BENCH[0][1:], ())), False)
        self.assertIs(suits(((("nobody", 1, 1, 1),), (0, 1)), BENCH), False)
        self.assertIs(suits((PLEDGE[0] + (("will", 1, 1, 1),), (0, 1)), BENCH), False)

    def test_promise(self):
        promise = promise_of(PLEDGE, BENCH)
        self.assertTrue(same((promise.judges, promise.kinds, promise.absences),
                             (2, (((0, 1), 1, 1, 1), ((0,), 0, 1, 2)), (1, 3))))
        promise = promise_of(((("debt", 2, 3, 4),), (0, 1)), (BENCH[0][1:] + (("cid", ("debt",), ALWAYS),), ()))
        self.assertTrue(same((promise.judges, promise.kinds), (2, (((1,), 2, 3, 4),))))
        for bench in ((BENCH[0][1:], ()), ((), ()), (other_judges(5), ())):
            with self.assertRaises(Refused):
                promise_of(PLEDGE, bench)
            with self.assertRaises(Refused):
                course_of(PLEDGE, bench, [], [])


class CourtDays(unittest.TestCase):
    def told(self, calendar, day, many):
        found = []
        while len(found) < many:
            if kind_of(calendar, day) == "open":
                found.append(day)
            day += 1
        return found

    def test_against_kinds_of_days(self):
        dice = random.Random(158)
        for _ in range(60):
            first = dice.randint(0, 400)
            calendar = (tuple(sorted(dice.sample(WEEK, dice.randint(0, 6)))),
                        (("date", 1, 1), ("feast", 1)), ((first + 3, "open"), (first + 5, "shut")),
                        ((first + 9, first + 9 + dice.randint(1, 90)),))
            many = dice.choice((0, 1, 5, 40))
            self.assertTrue(same(court_days(calendar, first, many), self.told(calendar, first, many)))
        self.assertEqual(len(court_days(PLAIN, 0, 400)), 400)
        self.assertEqual(court_days(PLAIN, 0, 3), [2, 3, 4])
        self.assertEqual(court_days(PLAIN, 0, 0), [])

    def test_the_last_days(self):
        every = ((), (), (), ())
        self.assertEqual(court_days(every, 999997, 4), [999997, 999998, 999999, 1000000])
        self.assertEqual(court_days(every, 1000000, 1), [1000000])
        with self.assertRaises(NotThere):
            court_days(every, 999997, 5)
        with self.assertRaises(NotThere):
            court_days(((), (), ((1000000, "shut"),), ()), 1000000, 1)
        self.assertEqual(court_days(((), (), ((1000000, "shut"),), ()), 1000000, 0), [])

    def test_errors(self):
        for day, many in ((-1, 3), (1000001, 3), (0, -1), (0, 401), (True, 3), (None, 3), (1000001, 401), (1000000, 401)):
            with self.assertRaises(OutOfRange):
                court_days(PLAIN, day, many)


class Filings(unittest.TestCase):
    def test_values(self):
        causes = [a + b for a in "abcdefghijklmnop" for b in "abcdefghijklmnop"]
        rows = [(cause, "claim", 5) for cause in causes]
        for value in ([], rows[:200], [("b", "debt", 0), ("a", "claim", 1000000)]):
            self.assertIs(is_filings(PLEDGE, value), True)
        for value in (rows[:201], [rows[0], rows[0]], [rows[0], (rows[0][0], "debt", 9)], [("a", "will", 5)], [("", "claim", 5)],
                      [("a", "claim", -1)], [("a", "claim", 1000001)], [("a", "claim", True)], [("a", "claim")],
                      [["a", "claim", 5]], [("a", "claim", 5, 0)], (rows[0],), None, [None], [("a", ("claim",), 5)]):
            self.assertIs(is_filings(PLEDGE, value), False, value)
        for value in ODD:
            self.assertIs(is_filings(PLEDGE, value), type(value) is list and value == [])
            self.assertIs(is_filings(PLEDGE, [value]), False)
        for value in mutants(rows[0]):
            answer = is_filings(PLEDGE, [rows[1], value])
            self.assertIn(answer, (True, False))
            if not is_plain(value):
                self.assertIs(answer, False, value)

    def test_counted(self):
        filings = [("d", "claim", 7), ("b", "claim", 3), ("a", "debt", 8), ("c", "debt", 10), ("e", "claim", 2), ("f", "claim", 9)]
        self.assertTrue(same(counted(filings, [3, 7, 9]), [(0, "b"), (0, "e"), (1, "d"), (2, "a"), (2, "f")]))
        self.assertEqual(counted(filings, []), [])
        self.assertEqual(counted([], [3]), [])
        self.assertEqual(counted(filings, [11]), [(0, cause) for cause in "abcdef"])
        dice = random.Random(1580)
        for _ in range(60):
            days = sorted(dice.sample(range(60), dice.randint(0, 25)))
            filings = [(name, "claim", dice.randint(0, 60)) for name in dice.sample("abcdefghijklmnop", dice.randint(0, 9))]
            told = []
            for cause, _, day in filings:
                later = [other for other in days if other >= day]
                told.extend([(days.index(later[0]), cause)] if later else [])
            self.assertEqual(counted(filings, days), sorted(told))

    def test_course(self):
        # The day 20 is a Friday, the first one of an absence; 28 and 29 are at a week's end.
        filings = [("a", "claim", 18), ("b", "debt", 20), ("c", "claim", 20), ("d", "claim", 21), ("e", "claim", 99)]
        days = [19, 20, 28, 29, 30, 37]
        self.assertTrue(same(course_of(PLEDGE, BENCH, filings, days), [
            ((1, 0), ()), ((1, 1), (1,)), ((1, 0), (1,)), ((0, 0), (1,)), ((0, 0), ()), ((0, 0), ())]))
        self.assertEqual(course_of(PLEDGE, BENCH, filings, []), [])
        for day in range(14, 45):
            absent = tuple(at for at, judge in enumerate(BENCH[0])
                           if not any(has_slot(judge[2], day, slot) for slot in range(16)))
            self.assertEqual(course_of(PLEDGE, BENCH, [], [day]), [((0, 0), absent)])


def random_case(dice):
    """A pledge, a bench that it suits, filings and court days."""
    judges = tuple((name, tuple(sorted(dice.sample(("claim", "debt"), dice.randint(1, 2)))),
                    (tuple(sorted(dice.sample(WEEK, dice.choice((5, 7, 7))))), 0, 9, ((40, 45),) if dice.random() < 0.3 else ()))
                   for name in ("ann", "bob", "cid")[:dice.randint(1, 3)])
    kinds = [kind for kind in ("claim", "debt") if any(kind in judge[1] for judge in judges)]
    pledge = (tuple((kind, dice.randint(0, 2), dice.randint(1, 3), dice.randint(1, 3)) for kind in kinds),
              (dice.randint(0, 2), dice.randint(1, 3)))
    days = sorted(dice.sample(range(30, 60), dice.randint(1, 14)))
    filings = [(cause, dice.choice(kinds), dice.randint(28, 62)) for cause in dice.sample("abcdefghijklmnop", dice.randint(0, 9))]
    return pledge, (judges, ()), filings, days


class Slow:
    """Rolls, cause by cause."""

    def __init__(self, pledge, bench, filings, days):
        self.pledge, self.bench, self.filings, self.days = pledge, bench, filings, days
        self.kinds = [row[0] for row in pledge[0]]
        self.kind_of = {cause: kind for cause, kind, _ in filings}
        self.counted_on = {cause: number for number, cause in counted(filings, days)}

    def is_there(self, judge, day):
        return any(has_slot(judge[2], day, slot) for slot in range(16))

    def waiting(self, number, kind, heard):
        return sorted((at, cause) for cause, at in self.counted_on.items()
                      if at <= number and cause not in heard and self.kind_of[cause] == kind)

    def lawful(self, number, heard):
        """All dealings that are lawful on the court day."""
        found = [()]
        for judge in self.bench[0]:
            able = [at for at, kind in enumerate(self.kinds) if kind in judge[1] and self.is_there(judge, self.days[number])]
            found = [row + (kind,) for row in found for kind in [-1] + able]
        return [row for row in found if all(row.count(at) <= len(self.waiting(number, kind, heard))
                                            for at, kind in enumerate(self.kinds))]

    def hear(self, number, dealing, heard):
        rows = []
        for judge, kind in zip(self.bench[0], dealing):
            if kind >= 0:
                cause = self.waiting(number, self.kinds[kind], heard)[0][1]
                heard[cause] = number
                rows.append((self.days[number], judge[0], cause))
        return rows

    def is_sound(self, roll):
        judges = {judge[0]: judge for judge in self.bench[0]}
        if roll != sorted(roll):
            return False
        for day, name, cause in roll:
            if day not in self.days or name not in judges or cause not in self.counted_on:
                return False
            if not self.is_there(judges[name], day) or self.kind_of[cause] not in judges[name][1]:
                return False
            if self.days.index(day) < self.counted_on[cause]:
                return False
        return (len({cause for _, _, cause in roll}) == len(roll)
                and len({(day, name) for day, name, _ in roll}) == len(roll))

    def forfeits(self, roll):
        terms = {row[0]: row[1] for row in self.pledge[0]}
        found = []
        for cause, number in self.counted_on.items():
            last = number + terms[self.kind_of[cause]]
            if last <= len(self.days) - 1 and not any(
                    other == cause and self.days.index(day) <= last for day, _, other in roll):
                found.append(cause)
        return sorted(found)


class Rolls(unittest.TestCase):
    def test_rolls_by_dealings(self):
        dice = random.Random(160)
        lost = 0
        for _ in range(200):
            case = random_case(dice)
            self.assertTrue(is_pledge(case[0]) and is_bench(case[1]) and is_filings(case[0], case[2]))
            slow = Slow(*case)
            heard = {}
            dealings = []
            told = []
            for number in range(len(case[3])):
                # Causes are dealt also when their term is over.
                dealing = dice.choice(slow.lawful(number, heard)[-4:])
                dealings.append(dealing)
                told.extend(slow.hear(number, dealing, heard))
            kept = (list(case[2]), list(case[3]), list(dealings))
            roll = roll_by(*case, dealings)
            self.assertTrue(same(roll, told))
            self.assertEqual((case[2], case[3], dealings), kept)
            self.assertIs(is_sound(*case, roll), True)
            self.assertTrue(same(forfeits(*case, roll), slow.forfeits(roll)))
            lost += len(slow.forfeits(roll)) > 0
        self.assertGreater(lost, 50)

    def test_unlawful_dealings(self):
        dice = random.Random(1601)
        for _ in range(60):
            case = random_case(dice)
            slow = Slow(*case)
            heard = {}
            dealings = []
            at = dice.randrange(len(case[3]))
            many = len(case[1][0])
            for number in range(len(case[3])):
                lawful = slow.lawful(number, heard)
                if number == at:
                    break
                dealings.append(lawful[-1])
                slow.hear(number, lawful[-1], heard)
            rest = [(-1,) * many] * (len(case[3]) - at - 1)
            for value in [tuple(dice.randint(-2, 2) for _ in range(many)) for _ in range(9)] + [
                    (-1,) * (many + 1), [-1] * many, (False,) * many, (None,) * many, None]:
                if type(value) is tuple and value in lawful and False not in [item is not False for item in value]:
                    roll_by(*case, dealings + [value] + rest)
                else:
                    with self.assertRaises(Malformed):
                        roll_by(*case, dealings + [value] + rest)
            with self.assertRaises(Malformed):
                roll_by(*case, dealings + rest)
            with self.assertRaises(Malformed):
                roll_by(*case, dealings + [lawful[0]] + rest + [(-1,) * many])

    def test_whose_term_is_over(self):
        filings = [("late", "debt", 20), ("more", "debt", 22)]
        days = [20, 21, 22]
        roll = roll_by(PLEDGE, BENCH, filings, days, [(-1, -1), (-1, -1), (1, -1)])
        self.assertEqual(roll, [(22, "ann", "late")])
        self.assertIs(is_sound(PLEDGE, BENCH, filings, days, roll), True)
        self.assertEqual(forfeits(PLEDGE, BENCH, filings, days, roll), ["late", "more"])
        self.assertEqual(forfeits(PLEDGE, BENCH, filings, days, []), ["late", "more"])
        # The last day of the term is to be one of the court days.
        filings = [("one", "claim", 21), ("two", "claim", 22)]
        self.assertEqual(forfeits(PLEDGE, BENCH, filings, days, []), ["one"])
        self.assertEqual(forfeits(PLEDGE, BENCH, filings, days, [(22, "ann", "one")]), [])

    def test_changed_rolls(self):
        filings = [("a", "claim", 30), ("b", "claim", 31), ("c", "debt", 32), ("d", "debt", 90)]
        days = [30, 31, 32, 33, 35, 36]
        roll = [(31, "ann", "b"), (31, "bob", "a"), (33, "ann", "c")]
        case = (PLEDGE, BENCH, filings, days)
        slow = Slow(*case)
        self.assertIs(is_sound(*case, roll), True)
        self.assertIs(is_sound(*case, []), True)
        for value in ([(31, "bob", "a"), (31, "ann", "b"), (33, "ann", "c")], roll + [(36, "ann", "a")], roll + [(36, "ann", "d")],
                      [(34, "ann", "a")], [(30, "ann", "b")], [(33, "bob", "c")], [(35, "bob", "a")], [(31, "eve", "a")],
                      [(31, "ann", "e")], [(31, "ann", "a"), (31, "ann", "b")], [(31, "ann", "a"), (31, "ann", "a")],
                      [(31, "ann", "a"), (32, "bob", "a")], tuple(roll), [list(roll[0])], [roll[0][:2]], [roll[0] + (0,)], None):
            self.assertIs(is_sound(*case, value), False, value)
            with self.assertRaises(Malformed):
                forfeits(*case, value)
        for at, row in enumerate(roll):
            for value in mutants(row):
                told = roll[:at] + [value] + roll[at + 1:]
                plain = type(value) is tuple and len(value) == 3 and is_plain(value) and type(value[0]) is int
                good = plain and type(value[1]) is str and type(value[2]) is str and slow.is_sound(told)
                self.assertIs(is_sound(*case, told), good, told)
            for day in days:
                for judge in ("ann", "bob"):
                    for cause in "abcd":
                        told = roll[:at] + [(day, judge, cause)] + roll[at + 1:]
                        self.assertIs(is_sound(*case, told), slow.is_sound(told))
        for value in ODD:
            self.assertIs(is_sound(*case, value), type(value) is list and value == [])
        # True is no day.
        self.assertIs(is_sound(PLEDGE, BENCH, [("a", "claim", 1)], [1], [(True, "ann", "a")]), False)
        self.assertIs(is_sound(PLEDGE, BENCH, [("a", "claim", 1)], [1], [(1, "ann", "a")]), True)

    def test_refused_comes_first(self):
        for bench in ((BENCH[0][1:], ()), ((), ()), (other_judges(5), ())):
            for ask in (lambda: roll_by(PLEDGE, bench, [], [5], []), lambda: is_sound(PLEDGE, bench, [], [5], None),
                        lambda: forfeits(PLEDGE, bench, [], [5], None), lambda: dealt_roll(PLEDGE, bench, [], [5], None)):
                with self.assertRaises(Refused):
                    ask()

    def test_dealt_by_books(self):
        dice = random.Random(1602)
        dealt = beyond = 0
        for _ in range(800):
            case = random_case(dice)
            promise = promise_of(case[0], case[1])
            try:
                book = made_book(promise)
            except TooMuch:
                continue
            if book is None:
                continue
            course = course_of(*case)
            if not is_within(promise, course):
                beyond += 1
                with self.assertRaises(Malformed):
                    dealt_roll(*case, book)
                continue
            dealt += 1
            roll = dealt_roll(*case, book)
            self.assertEqual(roll, roll_by(*case, deal_by(promise, book, course)))
            self.assertIs(is_sound(*case, roll), True)
            self.assertEqual(forfeits(*case, roll), [])
            for value in (None, book[1:], [], tuple(book)):
                with self.assertRaises(Malformed):
                    dealt_roll(*case, value)
        self.assertGreater(min(dealt, beyond), 20)

    def test_a_roll_without_forfeits_lets_no_cause_fall(self):
        dice = random.Random(1603)
        many = 0
        for _ in range(200):
            case = random_case(dice)
            promise = promise_of(case[0], case[1])
            course = course_of(*case)
            state = start_state(promise)
            dealings = []
            for move in course:
                dealing = earliest_first(promise, state, move)
                state = next_morning(promise, state, move, dealing)
                if state is None:
                    break
                dealings.append(dealing)
            if len(dealings) < len(course):
                continue
            roll = roll_by(*case, dealings)
            self.assertEqual(forfeits(*case, roll), [])
            many += 1
            if is_within(promise, course):
                self.assertEqual(len(run_course(promise, course, dealings)), len(course) + 1)
        self.assertGreater(many, 30)


if __name__ == "__main__":
    unittest.main()
