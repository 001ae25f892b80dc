"""Points 95 to 102: money, tariffs, fee books, rates, bills, interest."""

import fractions
import random
import unittest

from docketloom.bills import clearing, interest, is_bill, is_rates, owed
from docketloom.errors import NotThere, Refused
from docketloom.fees import fee_due, fee_of, first_unfair, is_fee_book, is_tariff
from odd import ODD, is_plain, mutants

MOST = 10 ** 12
LAST = 1000000
TARIFF = ("near", ((0, 10, (0, 1)), (100, 10, (1, 3)), (1000, 400, (1, 10000))))


def plain_fee(tariff, value):
    way, steps = tariff
    since, base, (part, whole) = [step for step in steps if step[0] <= value][-1]
    product = fractions.Fraction(part, whole) * (value - since)
    if way == "down":
        return base + product.__floor__()
    return base + (product.__ceil__() if way == "up" else round(product))


class Tariffs(unittest.TestCase):
    def test_good(self):
        for value in (TARIFF, ("down", ((0, 0, (1, 1)),)), ("up", ((0, MOST, (1, 10000)), (MOST, 0, (9999, 10000)))),
                      ("up", tuple((at, 0, (0, 1)) for at in range(12)))):
            self.assertIs(is_tariff(value), True, value)

    def test_bounds(self):
        step = (0, 10, (1, 3))
        for bad in (("near", ()), ("near", tuple((at, 0, (0, 1)) for at in range(13))), ("half", (step,)),
                    (None, (step,)), ("near", [step]), ["near", (step,)], ("near", (step,), 0), ("near", (list(step),)),
                    ("near", ((1, 10, (1, 3)),)), ("near", (step, step)), ("near", (step, (5, 0, (0, 1)), (4, 0, (0, 1)))),
                    ("near", (step, (MOST + 1, 0, (0, 1)))), ("near", ((0, MOST + 1, (0, 1)),)),
                    ("near", ((0, -1, (0, 1)),)), ("near", ((0, 0, (4, 3)),)), ("near", ((0, 0, (-1, 3)),)),
                    ("near", ((0, 0, (2, 4)),)), ("near", ((0, 0, (1, 10001)),)), ("near", ((0, 0, (0, 2)),)),
                    ("near", ((0, 0, (1, 0)),)), ("near", ((0, 0, [1, 3]),)), ("near", ((False, 0, (1, 3)),)),
                    ("near", ((0, True, (1, 3)),)), ("near", ((0, 0, (True, 3)),)), ("near", ((0, 0),))):
            self.assertIs(is_tariff(bad), False, bad)

    def test_any_kind(self):
        self.assertEqual([value for value in ODD if is_tariff(value) or is_fee_book(value)], [])
        for ask, good in ((is_tariff, TARIFF), (is_fee_book, ("kind", ((0, (("claim", TARIFF),)), (9, ()))))):
            for value in mutants(good):
                answer = ask(value)
                self.assertIn(answer, (True, False))
                if not is_plain(value):
                    self.assertIs(answer, False, value)

    def test_fees_at_the_steps(self):
        for way, told in (("down", [10, 10, 10, 10, 10, 11, 309]), ("up", [10, 10, 10, 11, 11, 11, 310]),
                          ("near", [10, 10, 10, 10, 11, 11, 310])):
            tariff = (way, TARIFF[1])
            self.assertEqual([fee_of(tariff, value) for value in (0, 99, 100, 101, 102, 103, 999)], told, way)
            self.assertEqual([fee_of(tariff, value) for value in (1000, 11000)], [400, 401])
        half = ((0, 0, (1, 2)),)
        self.assertEqual([fee_of(("near", half), value) for value in range(8)], [0, 0, 1, 2, 2, 2, 3, 4])
        self.assertEqual(fee_of(("down", ((0, 7, (1, 1)),)), MOST), MOST + 7)
        self.assertEqual(fee_of(("up", ((0, 0, (1, 3)), (1, 5, (1, 7)))), MOST), 5 - (1 - MOST) // 7)

    def test_against_the_plain_way(self):
        dice = random.Random(96)
        for _ in range(500):
            tariff = random_tariff(dice, dice.choice((50, MOST)))
            for value in [dice.randint(0, 60), dice.randint(0, MOST)] + [max(0, step[0] - 1) for step in tariff[1]]:
                self.assertEqual(fee_of(tariff, value), plain_fee(tariff, value))


def random_rate(dice):
    whole = dice.choice((1, 2, 3, 7, 10, 100, 9999, 10000))
    told = fractions.Fraction(dice.randint(0, whole), whole)
    return (told.numerator, told.denominator)


def random_tariff(dice, most):
    firsts = sorted({0} | {dice.randint(1, most) for _ in range(dice.randint(0, 5))})
    base = 0
    steps = []
    for first in firsts:
        base = max(0, base + dice.randint(-most // 8, most // 4))
        steps.append((first, min(base, MOST), random_rate(dice)))
    return (dice.choice(("down", "up", "near")), tuple(steps))


class Unfair(unittest.TestCase):
    def test_ordinary(self):
        self.assertIsNone(first_unfair(TARIFF))
        self.assertEqual(first_unfair(("down", ((0, 5, (0, 1)), (10, 4, (0, 1)), (20, 3, (0, 1))))), (0, 10))
        self.assertEqual(first_unfair(("down", ((0, 0, (1, 1)), (10, 9, (0, 1))))), None)
        self.assertEqual(first_unfair(("down", ((0, 0, (1, 1)), (10, 8, (0, 1))))), (9, 10))
        # The first later value with a lower fee may be of a later step.
        self.assertEqual(first_unfair(("down", ((0, 0, (1, 2)), (100, 60, (0, 1)), (200, 30, (0, 1)), (300, 5, (0, 1))))),
                         (12, 300))
        self.assertEqual(first_unfair(("up", ((0, 0, (1, 2)), (100, 60, (0, 1)), (200, 30, (0, 1)), (300, 5, (0, 1))))),
                         (11, 300))
        self.assertEqual(first_unfair(("near", ((0, 0, (0, 1)), (100, 60, (0, 1)), (200, 60, (1, 1)), (300, 159, (0, 1))))),
                         None)

    def test_large(self):
        self.assertEqual(first_unfair(("down", ((0, 0, (1, 10000)), (MOST, 10 ** 7, (0, 1))))), (10 ** 11 + 10000, MOST))
        self.assertEqual(first_unfair(("up", ((0, 0, (1, 10000)), (MOST, 10 ** 7, (0, 1))))), (10 ** 11 + 1, MOST))
        self.assertIsNone(first_unfair(("down", ((0, 0, (1, 1)), (MOST, MOST - 1, (0, 1))))))
        self.assertEqual(first_unfair(("down", ((0, 0, (1, 1)), (MOST, MOST - 2, (0, 1))))), (MOST - 1, MOST))

    def test_against_a_search(self):
        dice = random.Random(97)
        found = 0
        for _ in range(400):
            tariff = random_tariff(dice, 40)
            fees = [plain_fee(tariff, value) for value in range(60)]
            pairs = [(low, high) for low in range(60) for high in range(low + 1, 60) if fees[low] > fees[high]]
            self.assertEqual(first_unfair(tariff), min(pairs) if pairs else None, tariff)
            found += len(pairs) > 0
        self.assertGreater(found, 100)

    def test_with_much_money(self):
        dice = random.Random(970)
        found = 0
        for _ in range(300):
            tariff = random_tariff(dice, MOST)
            pair = first_unfair(tariff)
            edges = sorted({value for step in tariff[1] for value in (step[0], max(0, step[0] - 1))} | {MOST})
            fees = [plain_fee(tariff, value) for value in edges]
            if pair is None:
                self.assertEqual(fees, sorted(fees))
                continue
            low, high = pair
            found += 1
            fee = plain_fee(tariff, low)
            self.assertLess(low, high)
            self.assertGreater(fee, plain_fee(tariff, high))
            # The step behind the pair's low has no lower fee for the value ahead of low, nor ahead of high for low.
            lowest = min(plain_fee(tariff, step[0]) for step in tariff[1] if step[0] > low)
            if low > 0:
                self.assertLessEqual(plain_fee(tariff, low - 1), lowest)
            self.assertTrue(all(plain_fee(tariff, value) >= fee for value in edges if low < value < high))
        self.assertGreater(found, 100)


class FeeBooks(unittest.TestCase):
    FLAT = {fee: ("down", ((0, fee, (0, 1)),)) for fee in (3, 5, 8, 9)}
    ROWS = ((0, (("claim", FLAT[5]), ("note", FLAT[3]))), (100, (("brief", FLAT[8]), ("claim", FLAT[9]))),
            (200, (("claim", FLAT[3]),)))

    def test_good_and_bad(self):
        table = (("claim", TARIFF),)
        for way in ("old", "new", "kind"):
            self.assertIs(is_fee_book((way, self.ROWS)), True)
        twelve = tuple((chr(97 + at), TARIFF) for at in range(12))
        for good in (("old", ((0, ()),)), ("old", tuple((at, table) for at in range(12))), ("old", ((0, twelve), (LAST, ()))),):
            self.assertIs(is_fee_book(good), True)
        for bad in (("old", ()), ("old", tuple((at, table) for at in range(13))), ("old", ((1, table),)),
                    ("old", ((0, table), (0, table))), ("old", ((0, table), (5, table), (4, table))),
                    ("old", ((0, twelve + (("zz", TARIFF),)),)), ("old", ((0, table + table),)),
                    ("old", ((0, (("b", TARIFF), ("a", TARIFF))),)), ("old", ((0, (("", TARIFF),)),)),
                    ("old", ((0, (("a", None),)),)), ("old", ((0, (["a", TARIFF],)),)), ("old", ((0, (("a", TARIFF, 0),)),)),
                    ("old", ((0, [("a", TARIFF)]),)), ("older", ((0, table),)), ("old", [(0, table)]),
                    ("old", ((0, table), (LAST + 1, table))), ("old", ((False, table),)), ["old", ((0, table),)],
                    ("old", ((0, table),), 0), ("old", ((0,),))):
            self.assertIs(is_fee_book(bad), False, bad)

    def test_ways(self):
        for way, told in (("old", [5, 5, 5, 9, 9, 3]), ("new", [5, 9, 3, 9, 3, 3]), ("kind", [5, 5, 3, 9, 3, 3])):
            found = [fee_due((way, self.ROWS), "claim", 7, begun, filed)
                     for begun, filed in ((0, 99), (99, 100), (50, 200), (100, 199), (199, 200), (200, LAST))]
            self.assertEqual(found, told, way)

    def test_one_table_only(self):
        self.assertEqual(fee_due(("kind", self.ROWS), "note", 7, 50, 150), 3)
        self.assertEqual(fee_due(("kind", self.ROWS), "brief", 7, 50, 150), 8)
        self.assertEqual(fee_due(("old", self.ROWS), "note", 7, 50, 150), 3)
        self.assertEqual(fee_due(("new", self.ROWS), "brief", 7, 50, 150), 8)
        for way, name, begun, filed in (("old", "brief", 50, 150), ("new", "note", 50, 150), ("kind", "note", 100, 250),
                                        ("kind", "other", 0, 0), ("old", "other", 0, 0), ("new", "brief", 150, 200)):
            with self.assertRaises(NotThere):
                fee_due((way, self.ROWS), name, 7, begun, filed)

    def test_refused(self):
        for way in ("old", "new", "kind"):
            self.assertEqual(fee_due((way, self.ROWS), "claim", 7, 120, 120), 9)
            with self.assertRaises(Refused):
                fee_due((way, self.ROWS), "claim", 7, 120, 119)
        # The tables are found all the same.
        with self.assertRaises(NotThere):
            fee_due(("old", self.ROWS), "brief", 7, 250, 150)
        with self.assertRaises(Refused):
            fee_due(("kind", self.ROWS), "brief", 7, 250, 150)
        with self.assertRaises(Refused):
            fee_due(("new", self.ROWS), "brief", 7, 250, 150)

    def test_the_value(self):
        rows = ((0, (("claim", ("up", ((0, 0, (1, 2)),))),)), (10, (("claim", ("up", ((0, 10, (0, 1)),))),)))
        self.assertEqual([fee_due(("kind", rows), "claim", value, 5, 15) for value in (0, 15, 19, 20, 21, 40)],
                         [0, 8, 10, 10, 10, 10])


class PlainBill:
    """Point 100 day by day."""

    def __init__(self, bill, rates, way, day):
        principal, first, payments = bill
        self.principal = fractions.Fraction(principal)
        self.interest = fractions.Fraction(0)
        self.over = fractions.Fraction(0)
        self.added = fractions.Fraction(0)
        for at in range(first, day + 1):
            for paid_on, money in payments:
                if paid_on == at:
                    self.pay(fractions.Fraction(money), way)
            if at < day:
                rate = [rate for since, rate in rates if since <= at][-1]
                more = self.principal * fractions.Fraction(*rate) / 365
                self.interest += more
                self.added += more

    def pay(self, money, way):
        for part in ("interest", "principal") if way == "interest" else ("principal", "interest"):
            paid = min(money, getattr(self, part))
            setattr(self, part, getattr(self, part) - paid)
            money -= paid
        self.over += money

    def told(self):
        return tuple((part.numerator, part.denominator) for part in (self.principal, self.interest, self.over))


def random_rates(dice, near, many=4):
    firsts = sorted({0} | {max(1, near + dice.randint(-60, 120)) for _ in range(dice.randint(0, many))})
    return tuple((first, random_rate(dice)) for first in firsts)


class Bills(unittest.TestCase):
    BILL = (36500, 10, ((20, 100), (30, 40)))
    TENTH = ((0, (1, 10)),)

    def test_document(self):
        self.assertEqual(owed(self.BILL, self.TENTH, "interest", 30), ((36500, 1), (60, 1), (0, 1)))
        self.assertEqual(clearing(self.BILL, self.TENTH, "interest", 30), 36560)

    def test_rates(self):
        twenty = tuple((at, (1, 10000)) for at in range(20))
        for good in (self.TENTH, twenty, ((0, (0, 1)), (LAST, (1, 1)))):
            self.assertIs(is_rates(good), True)
        for bad in ((), twenty + ((20, (0, 1)),), ((1, (0, 1)),), ((0, (0, 1)), (0, (0, 1))), ((0, (3, 2)),),
                    ((0, (-1, 2)),), ((0, (1, 10001)),), ((0, (2, 4)),), [(0, (0, 1))], ([0, (0, 1)],), ((0, [0, 1]),),
                    ((0, (0, 1)), (5, (0, 1)), (4, (0, 1))), ((0, (0, 1)), (LAST + 1, (0, 1))), ((0, (0, 1), 0),)):
            self.assertIs(is_rates(bad), False, bad)

    def test_bills(self):
        for good in ((0, 0, ()), (MOST, LAST, ((LAST, 0),)), self.BILL, (5, 10, ((10, 1),) * 30),
                     (5, 10, ((10, 9), (10, 1), (11, MOST)))):
            self.assertIs(is_bill(good), True)
        for bad in ((5, 10, ((9, 1),)), (5, 10, ((11, 1), (10, 1))), (5, 10, ((10, 1),) * 31), (MOST + 1, 0, ()),
                    (-1, 0, ()), (5, -1, ()), (5, LAST + 1, ()), (5, 10, ((10, -1),)), (5, 10, ((10, MOST + 1),)),
                    (5, 10, ((LAST + 1, 1),)), (5, 10, [(10, 1)]), (5, 10, ([10, 1],)), (5, 10, ((10, 1, 1),)), (5, 10),
                    [5, 10, ()], (True, 10, ()), (5, True, ()), (5, 10, ((10, True),)), (5, 10, None)):
            self.assertIs(is_bill(bad), False, bad)

    def test_any_kind(self):
        self.assertEqual([value for value in ODD if is_rates(value) or is_bill(value)], [])
        for ask, good in ((is_rates, ((0, (1, 10)), (7, (0, 1)))), (is_bill, self.BILL)):
            for value in mutants(good):
                answer = ask(value)
                self.assertIn(answer, (True, False))
                if not is_plain(value):
                    self.assertIs(answer, False, value)

    def test_interest(self):
        rates = ((0, (1, 10)), (10, (0, 1)), (20, (1, 5)))
        for first, behind, days in ((0, 0, 0), (5, 5, 0), (0, 1, 1), (0, 10, 10), (9, 11, 1), (10, 20, 0), (10, 21, 2),
                                    (19, 22, 4), (0, 30, 30), (LAST, LAST, 0), (LAST - 1, LAST, 2),
                                    (0, LAST, 10 + 2 * (LAST - 20))):
            told = fractions.Fraction(days * 3, 10 * 365 * 7)
            self.assertEqual(interest((3, 7), rates, first, behind), (told.numerator, told.denominator), (first, behind))
        self.assertEqual(interest((0, 1), rates, 0, LAST), (0, 1))
        self.assertEqual(interest((365, 1), ((0, (1, 1)),), 0, LAST), (LAST, 1))
        with self.assertRaises(Refused):
            interest((3, 7), rates, 5, 4)

    def test_interest_day_by_day(self):
        dice = random.Random(99)
        for _ in range(100):
            rates = random_rates(dice, 60)
            first = dice.randint(0, 150)
            behind = first + dice.randint(0, 90)
            total = sum((fractions.Fraction(*[rate for since, rate in rates if since <= day][-1])
                         for day in range(first, behind)), fractions.Fraction(0))
            total = total * 5 / 3 / 365
            self.assertEqual(interest((5, 3), rates, first, behind), (total.numerator, total.denominator))

    def test_both_ways(self):
        bill = (36500, 10, ((20, 50), (20, 100), (40, 36500), (41, 1000), (41, 7)))
        # 10 coins of interest a day.
        self.assertEqual(owed(bill, self.TENTH, "interest", 10), ((36500, 1), (0, 1), (0, 1)))
        self.assertEqual(owed(bill, self.TENTH, "interest", 19), ((36500, 1), (90, 1), (0, 1)))
        self.assertEqual(owed(bill, self.TENTH, "interest", 20), ((36450, 1), (0, 1), (0, 1)))
        self.assertEqual(owed(bill, self.TENTH, "principal", 20), ((36350, 1), (100, 1), (0, 1)))
        # 20 days of interest on 36450 coins are less than the payment, and so are what is owed and these.
        left = fractions.Fraction(36450) - (36500 - fractions.Fraction(36450 * 20, 3650))
        self.assertEqual(owed(bill, self.TENTH, "interest", 40), ((left.numerator, left.denominator), (0, 1), (0, 1)))
        self.assertEqual(owed(bill, self.TENTH, "principal", 40)[0], (0, 1))
        last = owed(bill, self.TENTH, "principal", 41)
        self.assertEqual(last[:2], ((0, 1), (0, 1)))
        # Nothing comes to be owed again, and what is over stays so.
        self.assertEqual(owed(bill, self.TENTH, "principal", LAST), last)

    def test_on_the_day_of_the_bill(self):
        bill = (100, 10, ((10, 0), (10, 30), (10, 80)))
        for way in ("interest", "principal"):
            self.assertEqual(owed(bill, self.TENTH, way, 10), ((0, 1), (0, 1), (10, 1)))
            self.assertEqual(clearing(bill, self.TENTH, way, 10), 0)

    def test_errors(self):
        for ask in (owed, clearing):
            for day in (0, 9):
                with self.assertRaises(Refused):
                    ask(self.BILL, self.TENTH, "interest", day)
                with self.assertRaises(NotThere):
                    ask(self.BILL, self.TENTH, "over", day)
            with self.assertRaises(NotThere):
                ask(self.BILL, self.TENTH, "", 30)
            ask(self.BILL, self.TENTH, "principal", 10)

    def random_bill(self, dice):
        day = dice.randint(30, 60)
        principal = dice.choice((0, 1, 100, 10 ** 6, MOST))
        days = sorted(day + dice.randint(0, 60) for _ in range(dice.randint(0, 8)))
        most = max(1, principal // 3)
        return (principal, day, tuple((at, dice.choice((0, 1, dice.randint(0, most), principal))) for at in days))

    def test_against_day_by_day(self):
        dice = random.Random(100)
        over = 0
        for _ in range(150):
            bill = self.random_bill(dice)
            rates = random_rates(dice, 60)
            for day in (bill[1], bill[1] + dice.randint(0, 90)):
                told = {}
                for way in ("interest", "principal"):
                    plain = PlainBill(bill, rates, way, day)
                    told[way] = owed(bill, rates, way, day)
                    self.assertEqual(told[way], plain.told())
                    paid = sum(money for paid_on, money in bill[2] if paid_on <= day)
                    self.assertEqual(plain.principal + plain.interest - plain.over, bill[0] + plain.added - paid)
                    over += plain.over > 0
                    self.check_clearing(bill, rates, way, day)
                sums = {way: fractions.Fraction(*told[way][0]) + fractions.Fraction(*told[way][1]) for way in told}
                self.assertLessEqual(sums["principal"], sums["interest"])
        self.assertGreater(over, 20)

    def check_clearing(self, bill, rates, way, day):
        coins = clearing(bill, rates, way, day)
        ahead = tuple(payment for payment in bill[2] if payment[0] <= day)
        for money, is_clear in ((coins, True), (coins - 1, False)):
            if money >= 0:
                principal, added, _ = owed((bill[0], bill[1], ahead + ((day, money),)), rates, way, day)
                self.assertIs(principal == (0, 1) and added == (0, 1), is_clear)

    def test_many_payments_and_rates(self):
        dice = random.Random(1011)
        rows = [(at * 29, fractions.Fraction(dice.randint(1, 9000), 10000 - at)) for at in range(20)]
        rates = tuple((first, (rate.numerator, rate.denominator)) for first, rate in rows)
        days = sorted(dice.randint(7, 600) for _ in range(30))
        bill = (10 ** 7, 7, tuple((day, dice.choice((0, 1000, 10 ** 5, 10 ** 6))) for day in days))
        self.assertIs(is_rates(rates) and is_bill(bill), True)
        for way in ("interest", "principal"):
            for day in (300, 650):
                self.assertEqual(owed(bill, rates, way, day), PlainBill(bill, rates, way, day).told())

    def test_the_largest_bill(self):
        dice = random.Random(1010)
        rows = [(at * 49999, fractions.Fraction(dice.randint(1, 9000), 10000 - at)) for at in range(20)]
        rates = tuple((first, (rate.numerator, rate.denominator)) for first, rate in rows)
        self.assertIs(is_rates(rates), True)
        bill = (MOST, 7, tuple((7 + at * 33333, MOST // 7) for at in range(30)))
        for way in ("interest", "principal"):
            principal, added, over = owed(bill, rates, way, LAST)
            total = fractions.Fraction(*principal) + fractions.Fraction(*added)
            self.assertEqual(clearing(bill, rates, way, LAST), -(-total.numerator // total.denominator))
            self.assertGreaterEqual(over[0], 0)


if __name__ == "__main__":
    unittest.main()
