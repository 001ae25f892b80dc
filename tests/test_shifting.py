"""Points 103 to 107: expenses, judgments, cost rules, plain debts, orders, turns, burdens."""

import itertools
import random
import unittest

from docketloom.errors import Refused, TooMuch
from docketloom.parts import dealt
from docketloom.shifting import (burden, greatest_burden, is_enough, is_expense, is_judgment, is_rule, order, plain,
                                 turn)
from odd import ODD, is_plain, mutants

MOST = 10 ** 12
LOSER = ("loser", (0, 1))
OWN = ("own", (1, 1))
HALF = ("part", (1, 2))


def plain_debts(expenses, judgment, rule):
    """What is owed by point 104, as it is written."""
    found = []
    for party, amount, heads in expenses:
        for head, part in zip(heads, dealt(amount, [1] * len(heads))):
            for other, winner, loser in judgment:
                if other == head and winner == party:
                    way, (share, whole) = rule
                    money = {"own": 0, "loser": part, "part": part * share // whole}[way]
                    if money > 0:
                        found.append((loser, party, money))
    return found


def plain_form(debts):
    found = []
    names = sorted({name for debtor, creditor, _ in debts for name in (debtor, creditor)})
    for one, other in itertools.permutations(names, 2):
        net = sum(amount for debtor, creditor, amount in debts if (debtor, creditor) == (one, other))
        net -= sum(amount for debtor, creditor, amount in debts if (creditor, debtor) == (one, other))
        if net > 0:
            found.append((one, other, net))
    return found


class Values(unittest.TestCase):
    def test_expenses(self):
        for good in (("ann", 0, ("a",)), ("ann", MOST, tuple("abcdef"))):
            self.assertIs(is_expense(good), True)
        for bad in (("ann", -1, ("a",)), ("ann", MOST + 1, ("a",)), ("ann", True, ("a",)), ("", 1, ("a",)),
                    ("ann", 1, ()), ("ann", 1, tuple("abcdefg")), ("ann", 1, ("b", "a")), ("ann", 1, ("a", "a")),
                    ("ann", 1, ["a"]), ("ann", 1, "a"), ["ann", 1, ("a",)], ("ann", 1), ("ann", 1, ("a",), 0)):
            self.assertIs(is_expense(bad), False, bad)

    def test_judgments(self):
        for good in ((), (("a", "ann", "bob"),), (("a", "ann", "bob"), ("b", "ann", "bob")),
                     tuple((chr(97 + at), "bob", "ann") for at in range(12))):
            self.assertIs(is_judgment(good), True)
        for bad in ((("a", "ann", "ann"),), (("b", "ann", "bob"), ("a", "ann", "bob")),
                    (("a", "ann", "bob"), ("a", "bob", "ann")), (("a", "ann"),), (("a", "ann", "bob", 0),),
                    [("a", "ann", "bob")], (["a", "ann", "bob"],), (("", "ann", "bob"),), (("a", "", "bob"),),
                    (("a", "ann", None),), tuple((chr(97 + at), "bob", "ann") for at in range(13)), None):
            self.assertIs(is_judgment(bad), False, bad)

    def test_rules(self):
        for good in (LOSER, OWN, HALF, ("part", (1, 10000))):
            self.assertIs(is_rule(good), True)
        for bad in (("all", (0, 1)), ("part", (3, 2)), ("part", (-1, 2)), ("part", (2, 4)), ("part", (1, 10001)),
                    ("loser", None), ("own",), ["own", (0, 1)], ("own", (0, 1), 0), ("own", [0, 1]), (None, (0, 1)),
                    ("own", (True, 1))):
            self.assertIs(is_rule(bad), False, bad)

    def test_any_kind(self):
        self.assertEqual([value for value in ODD if is_expense(value) or is_rule(value)], [])
        self.assertEqual([value for value in ODD if is_judgment(value)], [()])
        for ask, good in ((is_expense, ("ann", 10, ("a", "b"))), (is_judgment, (("a", "ann", "bob"), ("b", "bob", "ann"))),
                          (is_rule, HALF)):
            for value in mutants(good):
                answer = ask(value)
                self.assertIn(answer, (True, False))
                if not is_plain(value):
                    self.assertIs(answer, False, value)


class Plain(unittest.TestCase):
    def test_ordinary(self):
        self.assertEqual(plain([]), [])
        self.assertEqual(plain([("ann", "bob", 5)]), [("ann", "bob", 5)])
        self.assertEqual(plain([("bob", "ann", 5)]), [("bob", "ann", 5)])
        self.assertEqual(plain([("bob", "ann", 5), ("ann", "bob", 5)]), [])
        self.assertEqual(plain([("bob", "ann", 5), ("ann", "bob", 3), ("bob", "ann", 1)]), [("bob", "ann", 3)])
        self.assertEqual(plain([("bob", "ann", 2), ("ann", "bob", 3)]), [("ann", "bob", 1)])
        self.assertEqual(plain([("cid", "ann", 1), ("ann", "bob", 9), ("ann", "cid", 2), ("bob", "cid", 4)]),
                         [("ann", "bob", 9), ("ann", "cid", 1), ("bob", "cid", 4)])

    def test_against_the_plain_way(self):
        dice = random.Random(105)
        for _ in range(200):
            debts = []
            for _ in range(dice.choice((0, 3, 20, 200))):
                one, other = dice.sample(("ann", "bob", "cid", "dan", "eve"), 2)
                debts.append((one, other, dice.choice((1, 2, 3, 10, MOST))))
            kept = list(debts)
            self.assertEqual(plain(debts), plain_form(debts))
            self.assertEqual(debts, kept)
            self.assertEqual(plain(plain(debts)), plain(debts))


class Orders(unittest.TestCase):
    def test_parts_that_do_not_come_out_even(self):
        expenses = [("ann", 11, ("a", "b", "c", "d"))]
        for head, part in (("a", 3), ("b", 3), ("c", 3), ("d", 2)):
            judgment = ((head, "ann", "bob"),)
            self.assertEqual(order(expenses, judgment, LOSER), [("bob", "ann", part)])
            self.assertEqual(order(expenses, judgment, HALF), [("bob", "ann", 1)])
            self.assertEqual(order(expenses, judgment, OWN), [])
            self.assertEqual(order(expenses, ((head, "bob", "ann"),), LOSER), [])
            self.assertEqual(order(expenses, ((head, "bob", "cid"),), LOSER), [])
        self.assertEqual(order(expenses, (), LOSER), [])
        self.assertEqual(order(expenses, (("e", "ann", "bob"),), LOSER), [])

    def test_each_part_is_rounded_by_itself(self):
        expenses = [("ann", 5, ("a", "b")), ("ann", 3, ("a",))]
        judgment = (("a", "ann", "bob"), ("b", "ann", "bob"))
        # Parts of 3, 2 and 3 coins.
        self.assertEqual(order(expenses, judgment, HALF), [("bob", "ann", 3)])
        self.assertEqual(order(expenses, judgment, ("part", (1, 1))), [("bob", "ann", 8)])
        self.assertEqual(order(expenses, judgment, ("part", (1, 4))), [])
        self.assertEqual(order([("ann", 1, ("a",))], judgment, HALF), [])

    def test_plain(self):
        expenses = [("ann", 10, ("a",)), ("bob", 4, ("b",)), ("cid", 6, ("a", "b"))]
        judgment = (("a", "ann", "bob"), ("b", "bob", "ann"))
        self.assertEqual(order(expenses, judgment, LOSER), [("bob", "ann", 6)])
        self.assertEqual(turn(expenses, judgment, (("a", "ann", "bob"),), LOSER), [("bob", "ann", 4)])
        self.assertEqual(turn(expenses, judgment, (), LOSER), [("ann", "bob", 6)])
        self.assertEqual(turn(expenses, (), judgment, LOSER), [("bob", "ann", 6)])
        self.assertEqual(turn(expenses, judgment, judgment, LOSER), [])
        self.assertEqual([burden(expenses, judgment, LOSER, party) for party in ("ann", "bob", "cid", "dan")],
                         [-6, 6, 0, 0])


NAMES = ("ann", "bob", "cid")


def random_expenses(dice, heads, many=8):
    return [(dice.choice(NAMES), dice.choice((0, 1, 7, 100, MOST, dice.randint(0, 50))),
             tuple(sorted(dice.sample(heads, dice.randint(1, min(6, len(heads))))))) for _ in range(dice.randint(0, many))]


def random_judgment(dice, heads):
    return tuple((head,) + tuple(dice.sample(NAMES, 2)) for head in sorted(heads))


def random_rule(dice):
    return dice.choice((LOSER, OWN, HALF, ("part", (2, 3)), ("part", (0, 1))))


class Random(unittest.TestCase):
    HEADS = ("a", "b", "c", "d", "e", "f", "g")

    def test_orders_and_burdens(self):
        dice = random.Random(104)
        for _ in range(200):
            expenses = random_expenses(dice, self.HEADS)
            judgment = random_judgment(dice, dice.sample(self.HEADS, dice.randint(0, 7)))
            rule = random_rule(dice)
            debts = plain_debts(expenses, judgment, rule)
            self.assertEqual(order(expenses, judgment, rule), plain_form(debts))
            for party in NAMES + ("dan",):
                self.assertEqual(burden(expenses, judgment, rule, party),
                                 sum(money for debtor, _, money in debts if debtor == party)
                                 - sum(money for _, creditor, money in debts if creditor == party))

    def test_turns_of_judgments_that_follow_each_other(self):
        dice = random.Random(106)
        for _ in range(100):
            expenses = random_expenses(dice, self.HEADS)
            rule = random_rule(dice)
            judgments = [random_judgment(dice, dice.sample(self.HEADS, dice.randint(0, 7))) for _ in range(5)]
            told = order(expenses, judgments[0], rule)
            for earlier, later in zip(judgments, judgments[1:]):
                step = turn(expenses, earlier, later, rule)
                back = [(creditor, debtor, money) for debtor, creditor, money in plain_debts(expenses, earlier, rule)]
                self.assertEqual(step, plain_form(plain_debts(expenses, later, rule) + back))
                told = told + step
                self.assertEqual(plain(told), order(expenses, later, rule))

    def test_greatest_burden(self):
        dice = random.Random(107)
        other_wins = 0
        for _ in range(150):
            expenses = random_expenses(dice, self.HEADS)
            rule = random_rule(dice)
            found = dice.sample(self.HEADS, dice.randint(0, 3))
            judgment = random_judgment(dice, found)
            left = [head for head in self.HEADS if head not in found]
            open_heads = random_judgment(dice, dice.sample(left, dice.randint(0, 4)))
            for party in NAMES:
                best = None
                for turned in itertools.product((False, True), repeat=len(open_heads)):
                    rows = tuple(sorted(judgment + tuple((head, other, one) if swap else (head, one, other)
                                                         for (head, one, other), swap in zip(open_heads, turned))))
                    money = burden(expenses, rows, rule, party)
                    # Of those with the greatest burden, the one with the fewest heads turned: each is turned only if
                    # that makes the burden greater.
                    key = (-money, sum(turned))
                    if best is None or key < best[0]:
                        best = (key, rows, turned)
                self.assertEqual(greatest_burden(expenses, judgment, open_heads, rule, party), (-best[0][0], best[1]))
                other_wins += sum(best[2])
                for security in (-best[0][0] - 1, -best[0][0], -best[0][0] + 1):
                    if security >= 0:
                        self.assertIs(is_enough(expenses, judgment, open_heads, rule, party, security),
                                      security >= -best[0][0])
        self.assertGreater(other_wins, 50)


class Burdens(unittest.TestCase):
    EXPENSES = [("ann", 10, ("a",)), ("bob", 4, ("b",))]

    def test_ordinary(self):
        open_heads = (("a", "ann", "bob"), ("b", "ann", "bob"))
        self.assertEqual(greatest_burden(self.EXPENSES, (), open_heads, LOSER, "bob"),
                         (10, (("a", "ann", "bob"), ("b", "ann", "bob"))))
        self.assertEqual(greatest_burden(self.EXPENSES, (), open_heads, LOSER, "ann"),
                         (4, (("a", "bob", "ann"), ("b", "bob", "ann"))))
        # Where it makes no difference, the one wins.
        self.assertEqual(greatest_burden(self.EXPENSES, (), open_heads, LOSER, "cid"),
                         (0, (("a", "ann", "bob"), ("b", "ann", "bob"))))
        self.assertEqual(greatest_burden(self.EXPENSES, (), (("a", "bob", "ann"),), OWN, "ann"), (0, (("a", "bob", "ann"),)))
        self.assertEqual(greatest_burden(self.EXPENSES, (("b", "bob", "ann"),), (("a", "cid", "ann"),), LOSER, "ann"),
                         (4, (("a", "cid", "ann"), ("b", "bob", "ann"))))

    def test_below_nought(self):
        judgment = (("a", "ann", "bob"),)
        self.assertEqual(greatest_burden(self.EXPENSES, judgment, (), LOSER, "ann"), (-10, judgment))
        self.assertIs(is_enough(self.EXPENSES, judgment, (), LOSER, "ann", 0), True)

    def test_enough(self):
        open_heads = (("a", "ann", "bob"),)
        self.assertEqual([is_enough(self.EXPENSES, (), open_heads, LOSER, "bob", security) for security in (0, 9, 10, 11)],
                         [False, False, True, True])

    def test_errors(self):
        twelve = tuple((chr(97 + at), "ann", "bob") for at in range(12))
        self.assertEqual(greatest_burden([], (), twelve, LOSER, "ann"), (0, twelve))
        self.assertEqual(greatest_burden([], twelve[:6], twelve[6:], LOSER, "ann"), (0, twelve))
        self.assertEqual(greatest_burden([], twelve, (), LOSER, "ann"), (0, twelve))
        for judgment, open_heads, error in (((("zz", "ann", "bob"),), twelve, TooMuch), (twelve, (("zz", "ann", "bob"),), TooMuch),
                                            (twelve, (("a", "bob", "ann"),), Refused), (twelve, twelve, Refused),
                                            (twelve[:2], (("b", "cid", "ann"),), Refused)):
            with self.assertRaises(error):
                greatest_burden(self.EXPENSES, judgment, open_heads, LOSER, "ann")
            with self.assertRaises(error):
                is_enough(self.EXPENSES, judgment, open_heads, LOSER, "ann", 5)


if __name__ == "__main__":
    unittest.main()
