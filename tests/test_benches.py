"""Points 115 to 122: hours, benches, lists, placings, lacks, rooms, good days."""

import itertools
import random
import unittest

import makers
import plain
from docketloom.benches import SLOTS, able_judges, has_slot, is_bench, is_hours, judge_of, rooms_in
from docketloom.errors import Malformed, NotThere, OutOfRange
from docketloom.placing import first_good, lack, most_part, most_set, place, rooms_of
from docketloom.slots import demand, is_lack, is_list, is_part, is_placing, supply, usable
from odd import ODD, is_plain, mutants

LAST = 1000000
ALL = (0, 1, 2, 3, 4, 5, 6)
FULL = (ALL, 0, 16, ())
NONE = ((), (), (), ())


def bench(judges=("ann", "bob"), rooms=("one",), hours=FULL, room_hours=FULL):
    return (tuple((name, (), hours) for name in judges), tuple((name, room_hours) for name in rooms))


class Hours(unittest.TestCase):
    def test_good(self):
        ten = tuple((10 * at, 10 * at + 10) for at in range(10))
        for value in (FULL, ((), 0, 1, ()), ((0, 6), 15, 16, ten), ((3,), 4, 9, ((0, LAST),)), (ALL, 0, 16, ((5, 6), (6, 7)))):
            self.assertIs(is_hours(value), True, value)

    def test_bad(self):
        eleven = tuple((10 * at, 10 * at + 10) for at in range(11))
        for value in (((0, 0), 0, 16, ()), ((1, 0), 0, 16, ()), ((7,), 0, 16, ()), ((-1,), 0, 16, ()), ([0], 0, 16, ()),
                      (ALL, 0, 0, ()), (ALL, 5, 4, ()), (ALL, 0, 17, ()), (ALL, -1, 5, ()), (ALL, 16, 17, ()),
                      (ALL, False, 5, ()), (ALL, 0, True, ()), ((True,), 0, 16, ()), (ALL, 0, 16, eleven),
                      (ALL, 0, 16, ((5, 5),)), (ALL, 0, 16, ((5, 4),)), (ALL, 0, 16, ((5, 7), (6, 8))),
                      (ALL, 0, 16, ((6, 8), (4, 5))), (ALL, 0, 16, ((5, LAST + 1),)), (ALL, 0, 16, ((-1, 5),)),
                      (ALL, 0, 16, [(5, 6)]), (ALL, 0, 16, ([5, 6],)), (ALL, 0, 16, ((5, 6, 7),)), (ALL, 0, 16), list(FULL),
                      (ALL, 0, 16, (), 0), (ALL, 0, 16, None), (None, 0, 16, ())):
            self.assertIs(is_hours(value), False, value)

    def test_has_slot(self):
        # The day 2 is a Monday.
        hours = ((0, 1), 3, 7, ((9, 10), (16, 30)))
        self.assertEqual([slot for slot in range(16) if has_slot(hours, 2, slot)], [3, 4, 5, 6])
        self.assertEqual([day for day in range(45) if has_slot(hours, day, 3)], [2, 3, 10, 30, 31, 37, 38, 44])
        self.assertIs(has_slot(hours, 9, 5), False)
        self.assertIs(has_slot((ALL, 0, 16, ((0, LAST),)), LAST, 15), True)
        self.assertIs(has_slot((ALL, 0, 16, ((0, LAST),)), LAST - 1, 15), False)
        self.assertEqual(SLOTS, 16)

    def test_out_of_range(self):
        for day, slot in ((0, 16), (0, -1), (-1, 0), (LAST + 1, 0), (0, True), (True, 0), (None, 0), (0, None)):
            with self.assertRaises(OutOfRange):
                has_slot(FULL, day, slot)


class Benches(unittest.TestCase):
    def test_good(self):
        eight = tuple("abcdefgh")
        for value in (((), ()), bench(), bench(eight, eight), ((("ann", eight, FULL),), ())):
            self.assertIs(is_bench(value), True, value)

    def test_bad(self):
        nine = tuple("abcdefghi")
        for value in (bench(nine), bench(rooms=nine), bench(("bob", "ann")), bench(("ann", "ann")), bench(rooms=("b", "a")),
                      bench(rooms=("a", "a")), bench(("",)), bench(rooms=("A",)), bench(hours=None), bench(room_hours=()),
                      ((("ann", nine, FULL),), ()), ((("ann", ("b", "a"), FULL),), ()), ((("ann", ["a"], FULL),), ()),
                      ((("ann", FULL),), ()), ((), (("one", (), FULL),)), ([], ()), ((), []), [(), ()], ((),), ((), (), ()),
                      ((["ann", (), FULL],), ()), ((), (["one", FULL],)), ((("ann", (), FULL, 0),), ()),
                      ((), (("one", FULL, 0),)), None):
            self.assertIs(is_bench(value), False, value)

    def test_any_kind(self):
        good = ((("ann", ("civil",), ((0, 2), 1, 4, ((5, 9),))),), (("one", FULL),))
        for ask, value in ((is_hours, ((0, 2), 1, 4, ((5, 9),))), (is_bench, good)):
            self.assertIs(ask(value), True)
            self.assertEqual([odd for odd in ODD if ask(odd)], [])
            for changed in mutants(value):
                answer = ask(changed)
                self.assertIn(answer, (True, False))
                if not is_plain(changed):
                    self.assertIs(answer, False, changed)

    def test_judges(self):
        told = ((("ann", ("civil", "crime"), ((0,), 0, 16, ())), ("bob", ("civil",), ((0, 1), 5, 6, ((9, 10),))),
                 ("cid", (), FULL)), ())
        self.assertEqual(judge_of(told, "bob"), told[0][1])
        for name in ("dan", "", "one"):
            with self.assertRaises(NotThere):
                judge_of(told, name)
        self.assertEqual([able_judges(told, "civil", day) for day in (1, 2, 3, 9, 10)],
                         [(), ("ann", "bob"), ("bob",), ("ann",), ("bob",)])
        self.assertEqual(able_judges(told, "crime", 2), ("ann",))
        self.assertEqual(able_judges(told, "other", 2), ())
        for day in (-1, LAST + 1, None, True):
            with self.assertRaises(OutOfRange):
                able_judges(told, "civil", day)
            with self.assertRaises(OutOfRange):
                rooms_in(told, day)

    def test_rooms(self):
        told = ((), (("one", ((0,), 0, 3, ())), ("two", ((0, 1), 2, 16, ((9, 10),)))))
        self.assertEqual(rooms_in(told, 2), (1, 1, 2) + (1,) * 13)
        self.assertEqual(rooms_in(told, 3), (0, 0) + (1,) * 14)
        self.assertEqual(rooms_in(told, 9), (1, 1, 1) + (0,) * 13)
        self.assertEqual(rooms_in(told, 4), (0,) * 16)


class Lists(unittest.TestCase):
    def test_good_and_bad(self):
        row = ("xx", "ann", 2, 0, 16)
        many = [(chr(97 + at), "ann", 1, 0, 16) for at in range(25)]
        for value in ([], [row], [("b",) + row[1:], ("a",) + row[1:]], many[:24], [("xx", "ann", 16, 15, 16)]):
            self.assertIs(is_list(bench(), value), True, value)
        for value in (many, [row, row], [row, ("xx", "bob", 1, 0, 1)], [("xx", "cid", 2, 0, 16)], [("", "ann", 2, 0, 16)],
                      [("xx", "ann", 0, 0, 16)], [("xx", "ann", 17, 0, 16)], [("xx", "ann", 2, 5, 5)],
                      [("xx", "ann", 2, 0, 17)], [("xx", "ann", 2, -1, 5)], [("xx", "ann", True, 0, 16)], [list(row)],
                      (row,), [row[:4]], [row + (0,)], None, [None], [("xx", None, 2, 0, 16)]):
            self.assertIs(is_list(bench(), value), False, value)
        for value in ODD:
            self.assertIs(is_list(bench(), value), value == [] and type(value) is list)
            self.assertIs(is_list(bench(), [value]), False)
        for value in mutants(row):
            answer = is_list(bench(), [value])
            self.assertIn(answer, (True, False))
            if not is_plain(value):
                self.assertIs(answer, False)

    def test_usable(self):
        told = ((("ann", (), ((0,), 4, 9, ())),), ())
        for first, behind, slots in ((0, 16, (4, 5, 6, 7, 8)), (5, 7, (5, 6)), (0, 4, ()), (8, 16, (8,)), (9, 16, ())):
            self.assertEqual(usable(told, 2, ("xx", "ann", 3, first, behind)), slots)
        self.assertEqual(usable(told, 3, ("xx", "ann", 3, 0, 16)), ())
        with self.assertRaises(OutOfRange):
            usable(told, LAST + 1, ("xx", "ann", 3, 0, 16))

    def test_demand_and_supply(self):
        told = (bench()[0], (("one", (ALL, 0, 4, ())), ("two", (ALL, 2, 4, ()))))
        rows = [("b", "bob", 3, 0, 16), ("a", "ann", 2, 0, 3), ("c", "ann", 5, 2, 4)]
        self.assertEqual([demand(rows, names) for names in ((), ("a",), ("a", "b"), ("a", "b", "c"))], [0, 2, 5, 10])
        self.assertEqual([supply(told, 5, rows, names) for names in ((), ("a",), ("c",), ("a", "c"), ("b",), ("a", "b"),
                                                                     ("a", "b", "c"))], [0, 3, 2, 4, 4, 5, 6])
        for names in (("d",), ("a", "d")):
            with self.assertRaises(NotThere):
                demand(rows, names)
            with self.assertRaises(NotThere):
                supply(told, 5, rows, names)
        with self.assertRaises(OutOfRange):
            supply(told, -1, rows, ("d",))


class Parts(unittest.TestCase):
    BENCH = (bench(("ann", "bob", "cid"))[0], (("one", (ALL, 0, 6, ())), ("two", (ALL, 2, 6, ()))))
    ROWS = [("b", "bob", 2, 0, 6), ("a", "ann", 2, 0, 4), ("c", "ann", 3, 0, 16), ("d", "cid", 1, 0, 16)]
    PART = [("a", (0, 2)), ("b", (2, 3)), ("c", (3, 4, 5)), ("d", (4,))]

    def test_good(self):
        for value in (self.PART, [("a", ()), ("b", ()), ("c", ()), ("d", ())], [("a", (3,)), ("b", (0,)), ("c", ()), ("d", (5,))]):
            self.assertIs(is_part(self.BENCH, 5, self.ROWS, value), True, value)
            self.assertIs(is_placing(self.BENCH, 5, self.ROWS, value), value == self.PART)
        self.assertIs(is_placing(self.BENCH, 5, [], []), True)

    def test_bad(self):
        part = self.PART
        for value in (part[:3], part[1:], part[::-1], part + [("e", ())], tuple(part), [], None,
                      [("a", (0, 1, 2))] + part[1:], [("a", (2, 0))] + part[1:], [("a", (0, 0))] + part[1:],
                      [("a", (4,))] + part[1:], [("a", [0, 2])] + part[1:], [["a", (0, 2)]] + part[1:],
                      # The judge has two hearings, or there is no room.
                      [("a", (0, 3))] + part[1:], [("a", (0, 2)), ("b", (0, 3))] + part[2:],
                      part[:3] + [("d", (3,))], part[:3] + [("d", (6,))], part[:3] + [("d", (True,))],
                      part[:3] + [("d", (4, 5))], part[:3] + [("d",)], part[:3] + [("d", (4,), 0)],
                      [("e", (0, 2))] + part[1:]):
            self.assertIs(is_part(self.BENCH, 5, self.ROWS, value), False, value)
            self.assertIs(is_placing(self.BENCH, 5, self.ROWS, value), False)
            with self.assertRaises(Malformed):
                rooms_of(self.BENCH, 5, self.ROWS, value)

    def test_a_slot_that_cannot_be_used(self):
        rows = [("a", "ann", 2, 1, 4)]
        for slots, answer in (((1, 3), True), ((0,), False), ((4,), False), ((3, 4), False), ((0, 1), False)):
            self.assertIs(is_part(self.BENCH, 5, rows, [("a", slots)]), answer)
        self.assertIs(is_part((self.BENCH[0], ()), 5, rows, [("a", (1,))]), False)

    def test_one_thing_changed(self):
        for at, item in enumerate(self.PART):
            for value in mutants(item):
                told = self.PART[:at] + [value] + self.PART[at + 1:]
                answer = is_part(self.BENCH, 5, self.ROWS, told)
                self.assertIn(answer, (True, False))
                if not is_plain(value):
                    self.assertIs(answer, False, value)
                if is_placing(self.BENCH, 5, self.ROWS, told):
                    self.assertIs(answer, True)
        for value in ODD:
            self.assertIs(is_part(self.BENCH, 5, self.ROWS, value), False)
            self.assertIs(is_placing(self.BENCH, 5, [], value), value == [] and type(value) is list)

    def test_lacks(self):
        rows = [("a", "ann", 2, 0, 1), ("b", "ann", 1, 1, 2), ("c", "bob", 1, 0, 16)]
        told = bench()
        self.assertIs(is_lack(told, 5, rows, ("a",)), True)
        self.assertIs(is_lack(told, 5, rows, ("a", "b")), True)
        for value in ((), ("b",), ("a", "b", "c"), ("b", "a"), ("a", "a"), ("d",), ["a"], "a", None, ("a", None), ("a", "d"),
                      (("a",),), ([],)):
            self.assertIs(is_lack(told, 5, rows, value), False, value)
        for value in ODD:
            self.assertIs(is_lack(told, 5, rows, value), value == ("a",))

    def test_out_of_range(self):
        for day in (-1, LAST + 1, None):
            for ask in (is_part, is_placing, is_lack, rooms_of):
                with self.assertRaises(OutOfRange):
                    ask(self.BENCH, day, self.ROWS, None)
            for ask in (place, lack, most_part, most_set):
                with self.assertRaises(OutOfRange):
                    ask(self.BENCH, day, self.ROWS)

    def test_rooms_of(self):
        self.assertEqual(rooms_of(self.BENCH, 5, self.ROWS, self.PART), [
            (0, "a", "one"), (2, "a", "one"), (2, "b", "two"), (3, "b", "one"), (3, "c", "two"), (4, "c", "one"),
            (4, "d", "two"), (5, "c", "one")])
        swapped = (self.BENCH[0], (("one", (ALL, 2, 6, ())), ("two", (ALL, 0, 6, ()))))
        self.assertEqual(rooms_of(swapped, 5, self.ROWS, self.PART)[:3], [(0, "a", "two"), (2, "a", "one"), (2, "b", "two")])
        self.assertEqual(rooms_of(bench(rooms=()), 5, [], []), [])
        ends = (self.BENCH[0], (("one", (ALL, 0, 3, ())), ("two", (ALL, 0, 6, ()))))
        self.assertEqual(rooms_of(ends, 5, [("b", "bob", 2, 0, 6)], [("b", (2, 3))]), [(2, "b", "one"), (3, "b", "two")])


def all_sets(rows):
    names = sorted(row[0] for row in rows)
    for many in range(len(names) + 1):
        yield from itertools.combinations(names, many)


def most_by_search(told, day, rows):
    """The most slots of a part placing, slot by slot, over all ways to seat hearings."""
    rooms = rooms_in(told, day)
    able = [set(usable(told, day, row)) for row in rows]
    states = {tuple(row[2] for row in rows): 0}
    for slot in range(16):
        behind = {}
        for left, many in states.items():
            chosen = [at for at, row in enumerate(rows) if slot in able[at] and left[at]]
            for size in range(min(len(chosen), rooms[slot]) + 1):
                for inside in itertools.combinations(chosen, size):
                    if len({rows[at][1] for at in inside}) == size:
                        key = tuple(had - (at in inside) for at, had in enumerate(left))
                        behind[key] = max(behind.get(key, 0), many + size)
        states = behind
    return max(states.values())


def random_bench(dice, judges=3, rooms=2, slots=6):
    def hours():
        first = dice.choice((0, 0, dice.randint(0, slots - 1)))
        days = ALL if dice.random() < 0.8 else tuple(sorted(dice.sample(ALL, 4)))
        return (days, first, dice.choice((slots, dice.randint(first + 1, slots))), dice.choice(((), (), ((3, 5),))))
    return (tuple((name, (), hours()) for name in sorted(dice.sample(("ann", "bob", "cid", "dan"), dice.randint(1, judges)))),
            tuple((name, hours()) for name in sorted(dice.sample(("one", "three", "two"), dice.randint(0, rooms)))))


def random_list(dice, told, many=4, slots=6, length=4):
    rows = []
    for name in dice.sample("abcdefgh", dice.randint(0, many)):
        first = dice.choice((0, 0, dice.randint(0, slots - 1)))
        behind = dice.choice((16, 16, dice.randint(first + 1, slots)))
        rows.append((name, dice.choice(told[0])[0], dice.choice((1, 1, 2, length)), first, behind))
    return rows


class Placings(unittest.TestCase):
    def check(self, told, day, rows):
        kept = list(rows)
        total = demand(rows, sorted(row[0] for row in rows))
        placing, short = place(told, day, rows), lack(told, day, rows)
        self.assertIs(placing is None, short is not None)
        if placing is None:
            self.assertIs(is_lack(told, day, rows, short), True)
        else:
            self.assertIs(is_placing(told, day, rows, placing), True)
        part = most_part(told, day, rows)
        self.assertIs(is_part(told, day, rows, part), True)
        many = sum(len(slots) for _, slots in part)
        chosen = most_set(told, day, rows)
        self.assertEqual(chosen, tuple(sorted(chosen)))
        rest = tuple(row[0] for row in rows if row[0] not in chosen)
        self.assertEqual(supply(told, day, rows, chosen) + demand(rows, rest), many)
        self.assertIs(many == total, placing is not None)
        self.assertEqual(rows, kept)
        return many

    def test_just_fits_and_a_slot_too_much(self):
        told = bench(("ann", "bob"), ("one",), (ALL, 2, 8, ()))
        rows = [("a", "ann", 3, 0, 16), ("b", "bob", 3, 0, 16)]
        self.assertEqual(self.check(told, 5, rows), 6)
        self.assertIsNotNone(place(told, 5, rows))
        for more in (("a", "ann", 4, 0, 16), ("b", "bob", 4, 0, 16)):
            longer = [more if row[0] == more[0] else row for row in rows]
            self.assertEqual(self.check(told, 5, longer), 6)
            self.assertEqual(lack(told, 5, longer), ("a", "b"))
        # With a second room for one slot it fits again.
        wider = (told[0], told[1] + (("two", (ALL, 7, 9, ())),))
        self.assertIsNotNone(place(wider, 5, [("a", "ann", 4, 0, 16), rows[1]]))

    def test_broken_off_and_shifted(self):
        # The hearing a has to leave the slots to the others, which have no choice.
        told = bench(("ann",), ("one",))
        rows = [("a", "ann", 2, 0, 4), ("b", "ann", 1, 0, 1), ("c", "ann", 1, 2, 3)]
        self.assertEqual(place(told, 5, rows), [("a", (1, 3)), ("b", (0,)), ("c", (2,))])
        rows.append(("d", "ann", 1, 3, 4))
        self.assertEqual(self.check(told, 5, rows), 4)

    def test_nothing(self):
        told = bench(rooms=())
        self.assertEqual((place(told, 5, []), lack(told, 5, []), most_part(told, 5, [])), ([], None, []))
        rows = [("a", "ann", 1, 0, 16)]
        self.assertEqual(lack(told, 5, rows), ("a",))
        self.assertEqual(most_part(told, 5, rows), [("a", ())])
        self.assertEqual(place(((), ()), 5, []), [])
        self.assertEqual(most_set(((), ()), 5, []), ())
        self.check(told, 5, rows)
        self.check(bench(hours=((), 0, 16, ())), 5, rows)

    def test_against_a_search(self):
        dice = random.Random(120)
        fits = 0
        for _ in range(400):
            told = random_bench(dice)
            rows = random_list(dice, told)
            day = dice.randint(0, 8)
            many = self.check(told, day, rows)
            self.assertEqual(many, most_by_search(told, day, rows))
            sums = []
            for names in all_sets(rows):
                rest = tuple(row[0] for row in rows if row[0] not in names)
                sums.append(supply(told, day, rows, names) + demand(rows, rest))
            self.assertEqual(min(sums), many)
            lacks = [names for names in all_sets(rows) if is_lack(told, day, rows, names)]
            self.assertIs(lack(told, day, rows) is None, lacks == [])
            fits += lacks == [] and len(rows) > 1
        self.assertGreater(fits, 10)
        self.assertLess(fits, 300)

    def test_large_lists(self):
        dice = random.Random(1200)
        for at in range(60):
            judges = tuple((name, (), (ALL, dice.randint(0, 3), dice.randint(10, 16), ())) for name in "abcdefgh")
            rooms = tuple((name, (ALL, dice.randint(0, 6), dice.randint(8, 16), ())) for name in "abcdefgh"[:dice.randint(3, 8)])
            rows = []
            for number in range(24):
                first = dice.randint(0, 10)
                rows.append((chr(97 + number), dice.choice("abcdefgh"), dice.randint(1, 4 if at % 2 else 9), first,
                             dice.randint(first + 1, 16)))
            self.check((judges, rooms), 5, rows)
        full = bench(tuple("abcdefgh"), tuple("abcdefgh"))
        rows = [(chr(97 + at), "abcdefgh"[at % 8], 5, 0, 16) for at in range(24)]
        self.assertEqual(self.check(full, 5, rows), 120)
        self.assertIsNotNone(place(full, 5, rows))

    def test_answers_may_be_changed(self):
        told = bench()
        rows = [("a", "ann", 1, 0, 16)]
        part = place(told, 5, rows)
        part.clear()
        self.assertEqual(len(place(told, 5, rows)), 1)


class GoodDays(unittest.TestCase):
    WEEK = ((5, 6), (), (), ())
    ROWS = [("a", "ann", 3, 0, 16)]

    def test_shut_days_and_absences(self):
        # The day 0 is a Saturday. Ann is away from the day 2 to the day 5, and bob's room is open on Fridays only.
        told = ((("ann", (), (ALL, 0, 16, ((2, 6),))),), (("one", FULL),))
        self.assertEqual(first_good(told, self.WEEK, self.ROWS, 0, 60), 6)
        self.assertEqual(first_good(told, self.WEEK, self.ROWS, 0, 7), 6)
        self.assertIsNone(first_good(told, self.WEEK, self.ROWS, 0, 6))
        self.assertEqual(first_good(told, NONE, self.ROWS, 0, 1), 0)
        self.assertIsNone(first_good(told, self.WEEK, self.ROWS, 0, 1))
        self.assertEqual(first_good(told, self.WEEK, self.ROWS, 7, 60), 9)
        away = ((5, 6), (), ((6, "shut"), (7, "open")), ())
        self.assertEqual(first_good(told, away, self.ROWS, 0, 60), 7)
        self.assertEqual(first_good(told, ((), (), (), ((0, 50),)), self.ROWS, 0, 60), 50)
        self.assertEqual(first_good(told, self.WEEK, [], 0, 60), 2)
        self.assertIsNone(first_good(told, self.WEEK, [("a", "ann", 3, 0, 2)], 0, 60))

    def test_the_last_day(self):
        told = bench()
        self.assertEqual(first_good(told, NONE, self.ROWS, LAST, 60), LAST)
        self.assertIsNone(first_good(told, ((), (), ((LAST, "shut"),), ()), self.ROWS, LAST, 60))
        self.assertEqual(first_good(told, ((), (), ((LAST - 1, "shut"),), ()), self.ROWS, LAST - 1, 60), LAST)

    def test_out_of_range(self):
        for day, many in ((0, 0), (0, 61), (0, -1), (-1, 5), (LAST + 1, 5), (0, True), (None, 5)):
            with self.assertRaises(OutOfRange):
                first_good(bench(), NONE, [], day, many)

    def test_day_by_day(self):
        dice = random.Random(122)
        found = set()
        for near in (30, 999960) * 60:
            told = random_bench(dice)
            rows = random_list(dice, told, 3)
            calendar = makers.calendar(dice, near, 40)
            many = dice.choice((1, 10, 60))
            expected = None
            for day in range(near, min(LAST + 1, near + many)):
                if plain.kind(calendar, day) == "open" and place(told, day, rows) is not None:
                    expected = day
                    break
            self.assertEqual(first_good(told, calendar, rows, near, many), expected)
            found.add(None if expected is None else expected > near)
        self.assertEqual(found, {None, False, True})


if __name__ == "__main__":
    unittest.main()
