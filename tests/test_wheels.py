"""Points 123 to 128: wheels, dealings, logs, chances, tails."""

import fractions
import itertools
import random
import unittest

from docketloom.chances import chance_of, chances, tail
from docketloom.errors import NotThere, Refused, TooMuch
from docketloom.wheels import deal, fills, first_fault, full_state, is_log, is_wheel, run_wheel
from odd import ODD, is_plain, mutants

WHEEL = (("ann", 2), ("bob", 1))
THREE = (("ann", 2), ("bob", 1), ("cid", 3))


class Slow:
    """A wheel whose cards lie in rows, one for each judge."""

    def __init__(self, wheel):
        self.wheel = wheel
        self.cards = {judge: ["card"] * weight for judge, weight in wheel}
        self.filled = 0

    def able(self, barred):
        return [judge for judge, _ in self.wheel if judge not in barred]

    def laid_out(self, barred):
        """The judges of the cards of the able ones, one by one; None if nobody is able."""
        able = self.able(barred)
        if not able:
            return None
        if not any(self.cards[judge] for judge in able):
            self.filled += 1
            for judge, weight in self.wheel:
                self.cards[judge] += ["card"] * weight
        return [judge for judge in able for _ in self.cards[judge]]

    def deal(self, barred, draw):
        row = self.laid_out(barred)
        judge = row[draw % len(row)]
        self.cards[judge].pop()
        return judge

    def state(self):
        return tuple(len(self.cards[judge]) for judge, _ in self.wheel)


def random_wheel(dice, most=4):
    return tuple((name, dice.randint(1, 3)) for name in sorted(dice.sample(("ann", "bob", "cid", "dan"), dice.randint(1, most))))


def random_barred(dice):
    return tuple(sorted(dice.sample(("ann", "bob", "cid", "eve"), dice.choice((0, 0, 0, 1, 2)))))


class Values(unittest.TestCase):
    def test_wheels(self):
        for value in (WHEEL, (("a", 6),), tuple((name, 1) for name in "abcdefgh")):
            self.assertIs(is_wheel(value), True)
        for value in ((), tuple((name, 1) for name in "abcdefghi"), (("a", 0),), (("a", 7),), (("a", True),), (("", 1),),
                      (("b", 1), ("a", 1)), (("a", 1), ("a", 2)), [("a", 1)], (["a", 1],), (("a",),), (("a", 1, 1),), None):
            self.assertIs(is_wheel(value), False, value)
        self.assertEqual(full_state(THREE), (2, 1, 3))

    def test_logs(self):
        row = ("one", ("ann", "zoe"), 5, "bob")
        many = tuple("abcdefghijkl")
        for value in ([], [row], [row, row], [("one", (), 0, "zoe")], [("one", many, 10 ** 30, "bob")]):
            self.assertIs(is_log(value), True)
        for value in ((row,), [row[:3]], [row + (0,)], [list(row)], [("", (), 0, "bob")], [("one", ("b", "a"), 0, "bob")],
                      [("one", ("a", "a"), 0, "bob")], [("one", ["a"], 0, "bob")], [("one", (), -1, "bob")],
                      [("one", (), True, "bob")], [("one", (), 0, "")], [("one", (), 0, None)], [row, None], None,
                      [("one", ("A",), 0, "bob")], [("one", None, 0, "bob")]):
            self.assertIs(is_log(value), False, value)

    def test_any_kind(self):
        self.assertEqual([value for value in ODD if is_wheel(value)], [])
        row = ("one", ("ann",), 5, "bob")
        for value in ODD:
            self.assertIs(is_log(value), value == [] and type(value) is list)
            self.assertIs(is_log([value]), False)
        for ask, good in ((is_wheel, WHEEL), (lambda value: is_log([value]), row)):
            for value in mutants(good):
                answer = ask(value)
                self.assertIn(answer, (True, False))
                if not is_plain(value):
                    self.assertIs(answer, False, value)


class Dealing(unittest.TestCase):
    def test_counted_off(self):
        self.assertEqual([deal(THREE, (2, 1, 3), (), draw) for draw in range(7)], [
            ("ann", (1, 1, 3)), ("ann", (1, 1, 3)), ("bob", (2, 0, 3)), ("cid", (2, 1, 2)), ("cid", (2, 1, 2)),
            ("cid", (2, 1, 2)), ("ann", (1, 1, 3))])
        self.assertEqual(deal(THREE, (2, 1, 3), ("ann",), 0), ("bob", (2, 0, 3)))
        self.assertEqual(deal(THREE, (2, 1, 3), ("ann", "cid"), 17), ("bob", (2, 0, 3)))
        self.assertEqual(deal(THREE, (2, 1, 3), ("dan",), 2), ("bob", (2, 0, 3)))
        self.assertEqual(deal(THREE, (0, 0, 3), (), 1), ("cid", (0, 0, 2)))
        self.assertEqual(deal(THREE, (2, 1, 3), (), 6 * 10 ** 40 + 2), ("bob", (2, 0, 3)))

    def test_filled(self):
        self.assertEqual(deal(THREE, (0, 0, 0), (), 0), ("ann", (1, 1, 3)))
        # Each judge gets cards, barred or not.
        self.assertEqual(deal(THREE, (0, 0, 3), ("cid",), 2), ("bob", (2, 0, 6)))
        self.assertEqual(deal(THREE, (5, 0, 9), ("ann", "cid"), 4), ("bob", (7, 0, 12)))
        self.assertEqual(deal(THREE, (0, 1, 0), ("ann",), 4), ("bob", (0, 0, 0)))

    def test_refused(self):
        for barred in (("ann", "bob", "cid"), ("aaa", "ann", "bob", "cid", "zoe")):
            with self.assertRaises(Refused):
                deal(THREE, (2, 1, 3), barred, 0)
            with self.assertRaises(Refused):
                chances(THREE, (2, 1, 3), barred)
            with self.assertRaises(Refused):
                run_wheel(THREE, [("one", (), 0), ("two", barred, 0)])

    def test_document(self):
        self.assertEqual(deal(WHEEL, (0, 1), ("bob",), 3), ("ann", (1, 2)))
        self.assertEqual(run_wheel(WHEEL, [("one", (), 2), ("two", (), 5), ("three", ("ann",), 0)]),
                         ([("one", (), 2, "bob"), ("two", (), 5, "ann"), ("three", ("ann",), 0, "bob")], (3, 0)))
        self.assertEqual(chances(WHEEL, (1, 1), ()), (("ann", (1, 2)), ("bob", (1, 2))))
        self.assertEqual(tail(WHEEL, [(), ()], "bob", 1), (2, 3))

    def test_run_against_cards(self):
        dice = random.Random(124)
        for _ in range(150):
            wheel = random_wheel(dice)
            slow = Slow(wheel)
            causes = []
            for _ in range(dice.randint(0, 25)):
                barred = random_barred(dice)
                if slow.able(barred):
                    causes.append((dice.choice(("one", "two")), barred, dice.choice((0, 1, dice.randint(0, 10 ** 18)))))
            kept = list(causes)
            log, state = run_wheel(wheel, causes)
            self.assertEqual(log, [(cause, barred, draw, slow.deal(barred, draw)) for cause, barred, draw in causes])
            self.assertEqual(state, slow.state())
            self.assertEqual(causes, kept)
            self.assertIsNone(first_fault(wheel, log))
            self.assertEqual(fills(wheel, log), slow.filled)
            # What a judge got and the cards that are left come to the weight, times one and the fillings.
            for at, (judge, weight) in enumerate(wheel):
                got = [row[3] for row in log].count(judge)
                self.assertEqual(got + state[at], weight * (1 + slow.filled))

    def test_shares_without_barred_judges(self):
        dice = random.Random(127)
        for _ in range(60):
            wheel = random_wheel(dice)
            n = dice.randint(0, 40)
            log, _ = run_wheel(wheel, [("one", (), dice.randint(0, 99)) for _ in range(n)])
            q = n // sum(full_state(wheel))
            for judge, weight in wheel:
                self.assertTrue(q * weight <= [row[3] for row in log].count(judge) <= (q + 1) * weight)


class Faults(unittest.TestCase):
    CAUSES = [("one", (), 2), ("two", ("ann",), 5), ("three", ("bob",), 0), ("four", (), 4), ("five", ("ann", "bob"), 1)]

    def test_one_thing_changed(self):
        log, _ = run_wheel(THREE, self.CAUSES)
        self.assertIsNone(first_fault(THREE, log))
        self.assertEqual(first_fault(THREE, []), None)
        for at, (cause, barred, draw, judge) in enumerate(log):
            for other in ("ann", "bob", "cid", "dan"):
                changed = log[:at] + [(cause, barred, draw, other)] + log[at + 1:]
                if other != judge:
                    self.assertEqual(first_fault(THREE, changed), at)
                    with self.assertRaises(Refused):
                        fills(THREE, changed)
            changed = log[:at] + [(cause, ("ann", "bob", "cid"), draw, judge)] + log[at + 1:]
            self.assertEqual(first_fault(THREE, changed), at)
            self.assertIsNone(first_fault(THREE, log[:at] + [("other", barred, draw, judge)] + log[at + 1:]))
        self.assertEqual(first_fault(THREE, log[1:]), self.slow_fault(THREE, log[1:]))

    def slow_fault(self, wheel, log):
        slow = Slow(wheel)
        for at, (_, barred, draw, judge) in enumerate(log):
            if not slow.able(barred) or slow.deal(barred, draw) != judge:
                return at
        return None

    def test_random_logs(self):
        dice = random.Random(125)
        found = set()
        for _ in range(300):
            wheel = random_wheel(dice, 2)
            log = [("one", random_barred(dice), dice.randint(0, 5), dice.choice(("ann", "bob"))) for _ in range(4)]
            expected = self.slow_fault(wheel, log)
            self.assertEqual(first_fault(wheel, log), expected)
            found.add(expected)
        self.assertEqual(found, {None, 0, 1, 2, 3})

    def test_fills(self):
        causes = [("one", (), 0)] * 12
        for many, expected in ((0, 0), (1, 0), (6, 0), (7, 1), (12, 1)):
            self.assertEqual(fills(THREE, run_wheel(THREE, causes[:many])[0]), expected)
        barred = [("one", ("ann", "cid"), 0)] * 4
        self.assertEqual(fills(THREE, run_wheel(THREE, barred)[0]), 3)
        with self.assertRaises(Refused):
            fills(THREE, [("one", ("ann", "bob", "cid"), 0, "ann")])


def records(wheel, rows):
    """All records, with their chances, that are possible, of causes with these barred judges."""
    def further(cards, at):
        if at == len(rows):
            yield [], fractions.Fraction(1)
            return
        slow = Slow(wheel)
        slow.cards = {judge: list(row) for judge, row in cards.items()}
        laid_out = slow.laid_out(rows[at])
        for judge in sorted(set(laid_out)):
            chance = fractions.Fraction(laid_out.count(judge), len(laid_out))
            left = {name: list(row) for name, row in slow.cards.items()}
            left[judge].pop()
            for record, rest in further(left, at + 1):
                yield [("one", rows[at], judge)] + record, chance * rest
    yield from further(Slow(wheel).cards, 0)


def told(fraction):
    return (fraction.numerator, fraction.denominator)


class Chances(unittest.TestCase):
    def test_one_dealing(self):
        self.assertEqual(chances(THREE, (2, 1, 3), ()), (("ann", (1, 3)), ("bob", (1, 6)), ("cid", (1, 2))))
        self.assertEqual(chances(THREE, (2, 0, 3), ()), (("ann", (2, 5)), ("cid", (3, 5))))
        self.assertEqual(chances(THREE, (0, 0, 0), ()), (("ann", (1, 3)), ("bob", (1, 6)), ("cid", (1, 2))))
        self.assertEqual(chances(THREE, (2, 0, 3), ("ann", "cid")), (("bob", (1, 1)),))
        self.assertEqual(chances(THREE, (0, 0, 3), ("cid",)), (("ann", (2, 3)), ("bob", (1, 3))))
        self.assertEqual(chances(THREE, (0, 4, 3), ("dan",)), (("bob", (4, 7)), ("cid", (3, 7))))

    def test_one_dealing_by_draws(self):
        dice = random.Random(126)
        for _ in range(100):
            wheel = random_wheel(dice)
            state = tuple(dice.choice((0, 0, 1, 2, 5)) for _ in wheel)
            barred = random_barred(dice)
            able = [at for at, (judge, _) in enumerate(wheel) if judge not in barred]
            if not able:
                continue
            cards = sum(state[at] for at in able) or sum(wheel[at][1] for at in able)
            went = [deal(wheel, state, barred, draw)[0] for draw in range(cards)]
            expected = tuple((judge, told(fractions.Fraction(went.count(judge), cards))) for judge, _ in wheel if judge in went)
            self.assertEqual(chances(wheel, state, barred), expected)

    def test_records(self):
        self.assertEqual(chance_of(THREE, []), (1, 1))
        self.assertEqual(chance_of(THREE, [("one", (), "ann")]), (1, 3))
        self.assertEqual(chance_of(THREE, [("one", (), "bob"), ("two", (), "cid")]), (1, 10))
        for record in ([("one", (), "dan")], [("one", ("ann",), "ann")], [("one", ("ann", "bob", "cid"), "ann")],
                       [("one", (), "bob"), ("two", (), "bob")], [("one", (), "ann"), ("two", (), "dan")],
                       [("one", ("dan",), "dan")]):
            self.assertEqual(chance_of(THREE, record), (0, 1), record)

    def test_the_chances_of_all_records_come_to_one(self):
        dice = random.Random(1260)
        for _ in range(40):
            wheel = random_wheel(dice, 3)
            rows = [barred for barred in (random_barred(dice) for _ in range(5)) if Slow(wheel).able(barred)]
            possible = {tuple(judge for _, _, judge in record): chance for record, chance in records(wheel, rows)}
            self.assertEqual(sum(possible.values()), 1)
            names = [judge for judge, _ in wheel] + ["eve"]
            for judges in itertools.product(names, repeat=len(rows)):
                record = [("one", barred, judge) for barred, judge in zip(rows, judges)]
                self.assertEqual(chance_of(wheel, record), told(possible.get(judges, fractions.Fraction(0))))

    def test_possible_means_a_right_log(self):
        dice = random.Random(1261)
        for _ in range(25):
            wheel = random_wheel(dice, 2)
            rows = [barred for barred in (random_barred(dice) for _ in range(3)) if Slow(wheel).able(barred)]
            for judges in itertools.product(("ann", "bob", "cid"), repeat=len(rows)):
                record = [("one", barred, judge) for barred, judge in zip(rows, judges)]
                is_right = any(first_fault(wheel, [("one", barred, draw, judge) for (_, barred, judge), draw
                                                   in zip(record, draws)]) is None
                               for draws in itertools.product(range(6), repeat=len(rows)))
                self.assertIs(chance_of(wheel, record) != (0, 1), is_right)


class Tails(unittest.TestCase):
    def test_against_all_records(self):
        dice = random.Random(128)
        for _ in range(60):
            wheel = random_wheel(dice, 3)
            rows = [barred for barred in (random_barred(dice) for _ in range(dice.randint(0, 6)))
                    if Slow(wheel).able(barred)]
            all_of_them = list(records(wheel, rows))
            for judge, _ in wheel:
                for number in range(len(rows) + 2):
                    expected = sum((chance for record, chance in all_of_them
                                    if [row[2] for row in record].count(judge) >= number), fractions.Fraction(0))
                    self.assertEqual(tail(wheel, rows, judge, number), told(expected))

    def test_ends(self):
        self.assertEqual(tail(THREE, [], "ann", 0), (1, 1))
        self.assertEqual(tail(THREE, [], "ann", 1), (0, 1))
        self.assertEqual(tail(THREE, [()] * 5, "ann", 0), (1, 1))
        self.assertEqual(tail(THREE, [()] * 5, "ann", 6), (0, 1))
        self.assertEqual(tail(THREE, [()] * 6, "ann", 2), (1, 1))
        self.assertEqual(tail(THREE, [()] * 6, "ann", 3), (0, 1))
        self.assertEqual(tail(THREE, [()] * 12, "ann", 10 ** 30), (0, 1))

    def test_eight_judges(self):
        wheel = tuple((name, 1) for name in "abcdefgh")
        # In the second round, half of the judges get a second cause.
        self.assertEqual(tail(wheel, [()] * 12, "a", 1), (1, 1))
        self.assertEqual(tail(wheel, [()] * 12, "a", 2), (1, 2))
        self.assertEqual(tail(wheel, [()] * 4, "h", 1), (1, 2))
        wheel = tuple((name, 2) for name in "abcdefgh")
        self.assertEqual(tail(wheel, [()] * 12, "a", 3), (0, 1))
        chance = tail(wheel, [()] * 12, "a", 2)
        # The cards of one judge among 12 of 16 that are drawn.
        self.assertEqual(chance, told(fractions.Fraction(12 * 11, 16 * 15)))

    def test_errors(self):
        wheel = tuple((name, 3) for name in "abcdefgh")
        none_able = tuple("abcdefgh")
        for judge, rows, error in (("zoe", [none_able] + [()] * 11, NotThere), ("zoe", [()] * 11, NotThere),
                                   ("zoe", [], NotThere), ("a", [()] * 11 + [none_able], Refused),
                                   ("a", [none_able], Refused), ("a", [()] * 12, TooMuch)):
            for number in (0, 1, 100):
                with self.assertRaises(error):
                    tail(wheel, rows, judge, number)

    def test_too_many_states(self):
        wheel = tuple((name, 3) for name in "abcdefgh")
        many = []
        states = {full_state(wheel)}
        for _ in range(12):
            many.append(len(states))
            states = {state[:at] + (held - 1,) + state[at + 1:] for state in states for at, held in enumerate(state) if held}
        # Before the ninth cause there are more than 3000, behind the eighth one that does not matter.
        self.assertLessEqual(many[7], 3000)
        self.assertGreater(many[8], 3000)
        self.assertEqual(tail(wheel, [()] * 8, "a", 0), (1, 1))
        with self.assertRaises(TooMuch):
            tail(wheel, [()] * 9, "a", 0)
        # Just 3000 of them are not too many, and one more is.
        for weights, rows, many in (
                ((6, 4, 4, 6, 4, 1, 2, 3), ["eh", "abcefgh", "", "", "", "", "", "", "bcefgh"], 3000),
                ((1, 2, 2, 4, 6, 3, 6, 5), ["f", "acefgh", "", "dh", "", "bcdefh", "", "", ""], 3001)):
            told = tuple(zip("abcdefgh", weights))
            barred_rows = [tuple(row) for row in rows]
            self.assertEqual(self.count(told, barred_rows), many)
            self.assertEqual(tail(told, barred_rows, "a", 0), (1, 1))
            if many > 3000:
                with self.assertRaises(TooMuch):
                    tail(told, barred_rows + [()], "a", 0)
            else:
                self.assertEqual(tail(told, barred_rows + [()], "a", 0), (1, 1))
        # Barred judges make it fewer states.
        self.assertEqual(tail(wheel, [()] * 7 + [("b", "c", "d", "e", "f", "g", "h")] * 5, "a", 5), (1, 1))


    def count(self, wheel, rows):
        """The number of the states that are possible behind causes with these barred judges."""
        states = {full_state(wheel)}
        for barred in rows:
            able = [at for at, (judge, _) in enumerate(wheel) if judge not in barred]
            behind = set()
            for state in states:
                if not any(state[at] for at in able):
                    state = tuple(held + weight for held, (_, weight) in zip(state, wheel))
                behind |= {state[:at] + (state[at] - 1,) + state[at + 1:] for at in able if state[at]}
            states = behind
        return len(states)


if __name__ == "__main__":
    unittest.main()
