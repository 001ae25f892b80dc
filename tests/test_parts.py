"""Points 4 to 7: fractions, their writing, rounding, dealing."""

import math
import random
import unittest
from fractions import Fraction

from docketloom.errors import Malformed, NotThere, OutOfRange, Refused
from docketloom.parts import dealt, is_fraction, less, made, minus, plus, read, rounded, through, times, write
from odd import ODD, is_plain, mutants

MOST = 10 ** 60


def tuple_of(fraction):
    return (fraction.numerator, fraction.denominator)


def fraction_of(pair):
    return Fraction(pair[0], pair[1])


def some_fractions():
    dice = random.Random(4)
    pairs = [(0, 1), (1, 1), (-1, 1), (1, 2), (-1, 2), (3, 2), (-3, 2), (5, 3), (MOST, 1), (-MOST, 1), (1, MOST),
             (-1, MOST), (MOST - 1, MOST), (1 - MOST, MOST)]
    for _ in range(30):
        size = 10 ** dice.randint(1, 59)
        pairs.append(tuple_of(Fraction(dice.randint(-size, size), dice.randint(1, size))))
    return pairs


class IsFraction(unittest.TestCase):
    def test_good_ones(self):
        for pair in some_fractions():
            self.assertIs(is_fraction(pair), True, pair)

    def test_bad_ones(self):
        for value in ((2, 4), (0, 2), (1, 0), (1, -1), (MOST + 1, 1), (-MOST - 1, 1), (1, MOST + 1), (3, 3),
                      (True, 1), (1, True), (1.0, 2), [1, 2], (1,), (1, 2, 3), ("1", 2), (None, 1), (0, 0)):
            self.assertIs(is_fraction(value), False, value)

    def test_values_of_every_kind(self):
        for value in mutants((3, 4)):
            answer = is_fraction(value)
            self.assertIn(answer, (True, False))
            if not is_plain(value):
                self.assertIs(answer, False, value)
        self.assertEqual([value for value in ODD if is_fraction(value)], [(0, 1)])


class Reckoning(unittest.TestCase):
    def test_made(self):
        self.assertEqual(made(6, -8), (-3, 4))
        self.assertEqual(made(-6, -8), (3, 4))
        self.assertEqual(made(-6, 8), (-3, 4))
        self.assertEqual(made(6, 8), (3, 4))
        self.assertEqual(made(0, 5), (0, 1))
        self.assertEqual(made(0, -5), (0, 1))
        self.assertEqual(made(-MOST, MOST), (-1, 1))
        for part in (0, 1, -1, MOST):
            with self.assertRaises(OutOfRange):
                made(part, 0)

    def test_against_fractions(self):
        for one in some_fractions():
            for other in some_fractions():
                a = fraction_of(one)
                b = fraction_of(other)
                self.assertEqual(plus(one, other), tuple_of(a + b))
                self.assertEqual(minus(one, other), tuple_of(a - b))
                self.assertEqual(times(one, other), tuple_of(a * b))
                self.assertIs(less(one, other), a < b)
                if b != 0:
                    self.assertEqual(through(one, other), tuple_of(a / b))
                else:
                    with self.assertRaises(OutOfRange):
                        through(one, other)

    def test_rounded(self):
        for pair in some_fractions():
            value = fraction_of(pair)
            self.assertEqual(rounded(pair, "down"), math.floor(value))
            self.assertEqual(rounded(pair, "up"), math.ceil(value))
            self.assertEqual(rounded(pair, "near"), round(value))

    def test_rounded_halves_and_signs(self):
        self.assertEqual([rounded((k, 2), "near") for k in (-5, -3, -1, 1, 3, 5, 7)], [-2, -2, 0, 0, 2, 2, 4])
        self.assertEqual([rounded((k, 3), "near") for k in (-5, -4, -2, -1, 1, 2, 4, 5)], [-2, -1, -1, 0, 0, 1, 1, 2])
        self.assertEqual((rounded((-7, 2), "down"), rounded((-7, 2), "up")), (-4, -3))
        self.assertEqual([rounded((-4, 1), way) for way in ("down", "up", "near")], [-4, -4, -4])

    def test_no_such_way(self):
        for way in ("", "Down", "even", "nearest", "downs"):
            with self.assertRaises(NotThere):
                rounded((5, 2), way)


class Writing(unittest.TestCase):
    def test_write(self):
        self.assertEqual([write(pair) for pair in ((-3, 4), (7, 1), (0, 1), (-5, 1))], ["-3/4", "7", "0", "-5"])

    def test_both_ways(self):
        for pair in some_fractions():
            self.assertEqual(read(write(pair)), pair)
        for text in ("-3/4", "7", "0", "1/2", "-1", "1" + "0" * 60, "-1/1" + "0" * 60, "10/3", "100"):
            self.assertEqual(write(read(text)), text)

    def test_malformed(self):
        for text in ("", "6/8", "+1", "1/1", "-0", "07", "0/1", "1/0", "1/-2", "-", "/", "1/", "/2", "--1", " 1", "1 ",
                     "1 /2", "1/2/3", "1/02", "01/2", "1.5", "a", "\u0661", "\u00b2", "1/\u0662", "-0/1", "1\n", "1_0",
                     "1" + "0" * 59 + "1", "1/1" + "0" * 59 + "1", "9" * 130, "9" * 5000, "1/" + "9" * 5000, "-00", "0/2", "0x1", "+1/2", "1/+2"):
            with self.assertRaises(Malformed, msg=text):
                read(text)


class Dealing(unittest.TestCase):
    def check(self, amount, weights):
        shares = dealt(amount, weights)
        total = sum(weights)
        self.assertEqual(sum(shares), amount)
        self.assertEqual(len(shares), len(weights))
        rests = []
        for at, weight in enumerate(weights):
            exact = Fraction(amount * weight, total)
            low = math.floor(exact)
            self.assertIn(shares[at], (low, low + 1))
            rests.append((-(exact - low), at, shares[at] - low))
        # The units that were missing went to the first ones by rest and index.
        given = [more for _, _, more in sorted(rests)]
        self.assertEqual(given, sorted(given, reverse=True))
        for weight, share in zip(weights, shares):
            if weight == 0:
                self.assertEqual(share, 0)

    def test_known(self):
        self.assertEqual(dealt(10, [1, 1, 1, 0]), [4, 3, 3, 0])
        self.assertEqual(dealt(11, [1, 1, 1, 0]), [4, 4, 3, 0])
        self.assertEqual(dealt(10, [5]), [10])
        self.assertEqual(dealt(0, [1, 2]), [0, 0])
        self.assertEqual(dealt(1, [0, 0, 7]), [0, 0, 1])
        self.assertEqual(dealt(7, [1, 3, 3]), [1, 3, 3])
        self.assertEqual(dealt(1, [1, 2, 2]), [0, 1, 0])
        self.assertEqual(dealt(10, [1, 2, 4]), [1, 3, 6])

    def test_many(self):
        dice = random.Random(7)
        for many in (1, 2, 3, 7, 50, 200):
            for top in (1, 3, 10 ** 18):
                weights = [dice.randint(0, top) for _ in range(many)] + [1]
                for amount in (0, 1, many, 997, 10 ** 18):
                    self.check(amount, weights[-200:])
        self.check(10 ** 18, [1] * 200)
        self.check(10 ** 18, [10 ** 18] * 199 + [1])
        self.check(199, [1] * 200)

    def test_no_weight(self):
        for weights in ([0], [0] * 200):
            for amount in (0, 5):
                with self.assertRaises(Refused):
                    dealt(amount, weights)


if __name__ == "__main__":
    unittest.main()
