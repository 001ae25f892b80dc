"""Points 108 to 112: balances, settling, groups, payments, lowerings and their prices."""

import itertools
import random
import unittest

from docketloom.errors import TooMuch
from docketloom.lowering import is_lowering, least_lowering, shows
from docketloom.nets import balances, fewest, groups, payments, settles
from docketloom.shifting import plain
from odd import ODD, mutants

MOST = 10 ** 12
NAMES = tuple(chr(97 + at) * 3 for at in range(16))


def debts_with(amounts):
    """Debts by which the parties have these balances, which come to nought."""
    owing = [[name, -amount] for name, amount in zip(NAMES, amounts) if amount < 0]
    owed = [[name, amount] for name, amount in zip(NAMES, amounts) if amount > 0]
    found = []
    while owing:
        amount = min(owing[0][1], owed[-1][1])
        found.append((owing[0][0], owed[-1][0], amount))
        owing[0][1] -= amount
        owed[-1][1] -= amount
        owing = [row for row in owing if row[1]]
        owed = [row for row in owed if row[1]]
    return found


def random_balances(dice, many, most):
    amounts = [dice.randint(-most, most) for _ in range(many - 1)]
    return amounts + [-sum(amounts)]


def partings(parties):
    """All partings of a list."""
    if not parties:
        yield []
        return
    first, rest = parties[0], parties[1:]
    for many in range(len(rest) + 1):
        for others in itertools.combinations(rest, many):
            left = [party for party in rest if party not in others]
            for parting in partings(left):
                yield [(first,) + others] + parting


def plain_groups(debts):
    """The told groups by a search over all partings."""
    told = dict(balances(debts))
    best = None
    for parting in partings(sorted(told)):
        if all(sum(told[party] for party in group) == 0 for group in parting):
            key = (-len(parting), sorted(tuple(sorted(group)) for group in parting))
            if best is None or key < best:
                best = key
    return best[1]


def plain_payments(debts, groups_told):
    told = dict(balances(debts))
    found = []
    for group in groups_told:
        while any(told[party] < 0 for party in group):
            payer = min(party for party in group if told[party] < 0)
            taker = min(party for party in group if told[party] > 0)
            amount = min(-told[payer], told[taker])
            found.append((payer, taker, amount))
            told[payer] += amount
            told[taker] -= amount
    return sorted(found)


class Balances(unittest.TestCase):
    def test_ordinary(self):
        self.assertEqual(balances([]), [])
        self.assertEqual(balances([("ann", "bob", 5), ("bob", "cid", 5), ("dan", "eve", 2)]),
                         [("ann", -5), ("cid", 5), ("dan", -2), ("eve", 2)])
        self.assertEqual(balances([("ann", "bob", 5), ("bob", "cid", 5), ("cid", "ann", 5)]), [])
        self.assertEqual(balances([("bob", "ann", 5), ("bob", "ann", 1), ("ann", "bob", 2)]), [("ann", 4), ("bob", -4)])

    def test_settles(self):
        debts = [("ann", "bob", 5), ("bob", "cid", 5)]
        for good in ([("ann", "cid", 5)], [("ann", "cid", 4), ("ann", "cid", 1)], debts,
                     [("ann", "zoe", 5), ("zoe", "cid", 5)], [("ann", "cid", 6), ("cid", "ann", 1)],
                     [("ann", "cid", 5), ("yan", "zoe", 5), ("zoe", "yan", 5)]):
            self.assertIs(settles(debts, good), True, good)
        for bad in ([], [("ann", "cid", 4)], [("cid", "ann", 5)], [("ann", "cid", 5), ("ann", "cid", 1)],
                    [("ann", "cid", 5), ("ann", "ann", 1)], [("ann", "cid", 5), ("yan", "zoe", 0)], (("ann", "cid", 5),),
                    [["ann", "cid", 5]], [("ann", "cid", 5, 0)], [("ann", "cid", 6), ("ann", "cid", -1)],
                    [("ann", "cid", 5.0)], [("ann", "cid", 4), ("ann", "cid", True)], [("ann", "Cid", 5)], None,
                    [("ann", "cid", 5), None], [("ann", "bob", 5)]):
            self.assertIs(settles(debts, bad), False, bad)
        self.assertIs(settles([], []), True)
        self.assertIs(settles([("ann", "bob", 1), ("bob", "ann", 1)], []), True)
        for value in ODD:
            self.assertIs(settles(debts, value), False)
            self.assertIs(settles(debts, [value]), False)
        for value in mutants(("ann", "cid", 5)):
            answer = settles(debts, [value])
            self.assertIs(answer, value == ("ann", "cid", 5) and type(value[2]) is int)


class Groups(unittest.TestCase):
    def test_document(self):
        debts = [("ann", "bob", 5), ("bob", "cid", 5), ("dan", "eve", 2)]
        self.assertEqual(groups(debts), [("ann", "cid"), ("dan", "eve")])
        self.assertEqual(payments(debts), [("ann", "cid", 5), ("dan", "eve", 2)])
        self.assertEqual(fewest(debts), 2)

    def test_nothing(self):
        for debts in ([], [("ann", "bob", 5), ("bob", "cid", 5), ("cid", "ann", 5)], [("ann", "bob", 5), ("bob", "ann", 5)]):
            self.assertEqual((groups(debts), payments(debts), fewest(debts)), ([], [], 0))

    def test_the_least_of_several_partings(self):
        # Each of two payers can be with each of two takers.
        debts = debts_with([-5, -5, 5, 5])
        self.assertEqual(groups(debts), [("aaa", "ccc"), ("bbb", "ddd")])
        debts = debts_with([5, 5, -5, -5, 5, -5])
        self.assertEqual(groups(debts), [("aaa", "ccc"), ("bbb", "ddd"), ("eee", "fff")])
        # Longer groups may come first: as tuples of texts.
        debts = debts_with([-4, 1, 3, 4, -4, 1, -1])
        self.assertEqual(groups(debts), [("aaa", "bbb", "ccc"), ("ddd", "eee"), ("fff", "ggg")])
        debts = debts_with([-3, 3, 1, -1, -1, 1])
        self.assertEqual(groups(debts), [("aaa", "bbb"), ("ccc", "ddd"), ("eee", "fff")])

    def test_payments_of_a_group(self):
        debts = debts_with([-7, 4, -1, 4])
        self.assertEqual(groups(debts), [("aaa", "bbb", "ccc", "ddd")])
        self.assertEqual(payments(debts), [("aaa", "bbb", 4), ("aaa", "ddd", 3), ("ccc", "ddd", 1)])
        debts = debts_with([4, -7, 4, -1])
        self.assertEqual(payments(debts), [("bbb", "aaa", 4), ("bbb", "ccc", 3), ("ddd", "ccc", 1)])

    def test_against_all_partings(self):
        dice = random.Random(110)
        many = set()
        for _ in range(200):
            amounts = random_balances(dice, dice.randint(1, 7), dice.choice((2, 3, 6)))
            dice.shuffle(amounts)
            debts = debts_with(amounts)
            told = groups(debts)
            self.assertEqual(told, plain_groups(debts))
            self.check(debts, told)
            many.add(len(told))
        self.assertLessEqual({0, 1, 2, 3}, many)

    def test_ten_parties(self):
        dice = random.Random(1100)
        for at in range(12):
            amounts = []
            while len([amount for amount in amounts if amount]) != 10:
                amounts = random_balances(dice, 10, dice.choice((2, 3, 5)))
            debts = debts_with(amounts)
            told = groups(debts)
            if at < 3:
                self.assertEqual(told, plain_groups(debts))
            self.check(debts, told)

    def check(self, debts, told):
        found = payments(debts)
        self.assertEqual(found, plain_payments(debts, told))
        self.assertIs(settles(debts, found), True)
        self.assertEqual(len(found), fewest(debts))
        self.assertEqual(fewest(debts), len(balances(debts)) - len(told))

    def test_no_fewer_payments_settle(self):
        dice = random.Random(109)
        for _ in range(40):
            debts = debts_with(random_balances(dice, 4, 2))
            parties = [party for party, _ in balances(debts)]
            pairs = list(itertools.permutations(parties, 2))
            fewer = fewest(debts) - 1
            if fewer >= 1:
                for chosen in itertools.combinations(pairs, fewer):
                    for amounts in itertools.product(range(1, 7), repeat=fewer):
                        self.assertIs(settles(debts, [pair + (amount,) for pair, amount in zip(chosen, amounts)]), False)

    def test_too_much(self):
        ten = debts_with([1, -1] * 5)
        self.assertEqual(len(groups(ten)), 5)
        # A round of others changes nothing; an eleventh party with a balance does.
        rounds = ten + [("xxx", "yyy", 3), ("yyy", "zzz", 3), ("zzz", "xxx", 3)]
        self.assertEqual(groups(rounds), groups(ten))
        eleven = debts_with([1, -1] * 4 + [1, 1, -2])
        for ask in (groups, payments, fewest):
            with self.assertRaises(TooMuch):
                ask(eleven)
        self.assertEqual(len(balances(eleven)), 11)
        self.assertIs(settles(eleven, eleven), True)

    def test_great_amounts_and_many_debts(self):
        dice = random.Random(111)
        debts = []
        for _ in range(200):
            one, other = dice.sample(NAMES[:10], 2)
            debts.append((one, other, dice.randint(1, 10 ** 30)))
        self.check(debts, groups(debts))


def lowerings(debts):
    """All lowerings of small debts."""
    for amounts in itertools.product(*(range(amount + 1) for _, _, amount in debts)):
        left = [(debtor, creditor, amount) for (debtor, creditor, _), amount in zip(debts, amounts) if amount]
        if balances(left) == balances(debts):
            yield left


def random_plain(dice, parties, many, most):
    pairs = list(itertools.combinations(NAMES[:parties], 2))
    found = []
    for one, other in dice.sample(pairs, min(many, len(pairs))):
        found.append(dice.choice(((one, other), (other, one))) + (dice.randint(1, most),))
    return sorted(found)


def total(debts):
    return sum(amount for _, _, amount in debts)


class Lowerings(unittest.TestCase):
    ROUND = [("ann", "bob", 5), ("bob", "cid", 3), ("cid", "ann", 7), ("cid", "dan", 2)]
    LEFT = [("ann", "bob", 2), ("cid", "ann", 4), ("cid", "dan", 2)]
    PRICES = (("ann", 1), ("bob", 0), ("cid", 2), ("dan", 1))

    def test_a_round(self):
        left, prices = least_lowering(self.ROUND)
        self.assertEqual(left, self.LEFT)
        self.assertIs(shows(self.ROUND, left, prices), True)
        self.assertIs(shows(self.ROUND, self.LEFT, self.PRICES), True)
        self.assertEqual(least_lowering([]), ([], ()))
        self.assertIs(shows([], [], ()), True)
        self.assertEqual(least_lowering([("ann", "bob", 1), ("bob", "cid", 1), ("cid", "ann", 1)])[0], [])

    def test_is_lowering(self):
        for good in (self.ROUND, self.LEFT, [("ann", "bob", 3), ("bob", "cid", 1), ("cid", "ann", 5), ("cid", "dan", 2)]):
            self.assertIs(is_lowering(self.ROUND, good), True)
        for bad in ([], self.LEFT[:2], self.LEFT[::-1], tuple(self.LEFT), self.LEFT + self.LEFT[2:], None,
                    [("ann", "bob", 1), ("ann", "bob", 1), ("cid", "ann", 4), ("cid", "dan", 2)],
                    [("ann", "bob", 2), ("ann", "dan", 0), ("cid", "ann", 4), ("cid", "dan", 2)],
                    [("ann", "bob", 2), ("cid", "ann", 3), ("cid", "dan", 3)],
                    [("cid", "bob", 2), ("cid", "ann", 2), ("cid", "dan", 2)],
                    [("ann", "bob", 6), ("bob", "cid", 4), ("cid", "ann", 8), ("cid", "dan", 2)],
                    [list(debt) for debt in self.LEFT], [("ann", "bob", 2.0)] + self.LEFT[1:]):
            self.assertIs(is_lowering(self.ROUND, bad), False, bad)
            self.assertIs(shows(self.ROUND, bad, self.PRICES), False)
        self.assertIs(is_lowering([], []), True)
        # Nobody comes to owe to somebody to whom nothing was owed.
        self.assertIs(is_lowering([("ann", "bob", 1), ("bob", "cid", 1)], [("ann", "cid", 1)]), False)
        self.assertIs(is_lowering([("ann", "bob", 2)], [("ann", "bob", 1), ("ann", "bob", 1)]), False)
        for value in ODD:
            self.assertIs(is_lowering(self.ROUND, value), False)
            self.assertIs(is_lowering(self.ROUND, [value]), False)
            if value != []:
                self.assertIs(is_lowering([], value), False)

    def test_each_part_changed(self):
        self.assertIs(shows(self.ROUND, self.ROUND, self.PRICES), False)
        for at, debt in enumerate(self.LEFT):
            for value in mutants(debt):
                left = self.LEFT[:at] + [value] + self.LEFT[at + 1:]
                if not (value == debt and type(value[2]) is int):
                    self.assertIs(is_lowering(self.ROUND, left), False, left)
        for value in mutants(self.PRICES):
            self.assertIs(shows(self.ROUND, self.LEFT, value), self.show(self.ROUND, self.LEFT, value), value)
        for value in ODD:
            self.assertIs(shows(self.ROUND, self.LEFT, value), False)
        self.assertIs(shows(self.ROUND, self.LEFT, list(self.PRICES)), False)
        self.assertIs(shows(self.ROUND, self.LEFT, tuple((party, price - 9) for party, price in self.PRICES)), True)

    def show(self, debts, left, prices):
        """Point 112 as it is written."""
        parties = sorted({party for debtor, creditor, _ in debts for party in (debtor, creditor)})
        if type(prices) is not tuple or not all(type(item) is tuple and len(item) == 2 for item in prices):
            return False
        if [type(item[0]) for item in prices] != [str] * len(parties) or [item[0] for item in prices] != parties:
            return False
        if any(type(price) is not int for _, price in prices):
            return False
        told = dict(prices)
        kept = {debt[:2]: debt[2] for debt in left}
        for debtor, creditor, amount in debts:
            step = told[debtor] - told[creditor]
            rest = kept.get((debtor, creditor), 0)
            if (rest > 0 and step < 1) or (rest < amount and step > 1):
                return False
        return True

    def test_against_all_lowerings(self):
        dice = random.Random(112)
        lowered = 0
        for _ in range(200):
            debts = random_plain(dice, dice.randint(2, 5), dice.randint(0, 7), 3)
            left, prices = least_lowering(debts)
            all_of_them = list(lowerings(debts))
            least = min(total(other) for other in all_of_them)
            self.assertEqual(total(left), least)
            self.assertIs(shows(debts, left, prices), True)
            lowered += least < total(debts)
            for other in dice.sample(all_of_them, min(8, len(all_of_them))):
                self.assertIs(is_lowering(debts, other), True)
                # The prices of a least one show just the least ones.
                self.assertIs(shows(debts, other, prices), total(other) == least)
        self.assertGreater(lowered, 20)

    def test_only_least_ones_are_shown(self):
        dice = random.Random(1120)
        for _ in range(30):
            debts = random_plain(dice, 3, 3, 2)
            parties = sorted({party for debt in debts for party in debt[:2]})
            all_of_them = list(lowerings(debts))
            least = min(total(other) for other in all_of_them)
            for left in all_of_them:
                told = [prices for prices in itertools.product(range(-3, 4), repeat=len(parties))
                        if shows(debts, left, tuple(zip(parties, prices)))]
                self.assertIs(len(told) > 0, total(left) == least)

    def test_rounds_within_rounds(self):
        # Two rounds, of ann, bob and cid, and of all four, share the debts of ann and of bob.
        for many in (1, 2, 3):
            debts = [("ann", "bob", 2), ("bob", "cid", 3), ("cid", "ann", many), ("cid", "dan", 2), ("dan", "ann", 1)]
            left, prices = least_lowering(debts)
            self.assertIs(shows(debts, left, prices), True)
            self.assertEqual(total(left), min(total(other) for other in lowerings(debts)))

    def test_the_largest(self):
        dice = random.Random(1121)
        for most in (1, 3, MOST, 10 ** 40):
            for _ in range(15):
                debts = random_plain(dice, 12, 40, most)
                self.assertEqual(plain(debts), debts)
                kept = list(debts)
                left, prices = least_lowering(debts)
                self.assertEqual(debts, kept)
                self.assertIs(is_lowering(debts, left), True)
                self.assertIs(shows(debts, left, prices), True)
                self.assertIs(self.show(debts, left, prices), True)


if __name__ == "__main__":
    unittest.main()
