"""The calls order, steps and val: promise 1."""

import random
import unittest
from fractions import Fraction

from tests.asking import (
    BAD_ROWS, FIFTH, HUGE, PRIMES, SYNTONIC, THIRD, ZEROS, ask, ask_one, fraction, order, steps, val,
)

# differences of two sound rows that are nearest to 1/1 of all, sizes from 0.00000016 on
CLOSEST = [
    [-12, -8, 10, -1, 13, -11],
    [-10, 5, 12, 15, -10, -9],
    [-3, 0, 15, 6, -13, -1],
    [-10, 10, -6, 5, -6, 4],
    [-7, 5, -3, 9, 3, -8],
    [-6, 13, 13, -12, 0, -3],
]

# n and a row with n times its size nearest of all to the middle of two whole numbers, from 0.000000004 on
MIDDLE = [
    (97, [0, 7, 6, 4, 3, 0]),
    (35, [0, 1, 6, 6, 0, -8]),
    (55, [0, 1, 0, -7, -1, -3]),
    (2, [0, 5, -4, -6, 6, 1]),
    (34, [0, 5, 5, 7, 5, 5]),
    (43, [0, 2, 3, -3, 7, -4]),
]


def halved(row):
    """Two sound rows whose difference is the row, of exponents from -16 to 16."""
    first = [exponent // 2 for exponent in row]
    return first, [part - exponent for part, exponent in zip(first, row)]


def inverse(row):
    return [-exponent for exponent in row]


def told_order(a, b):
    if fraction(a) == fraction(b):
        return [1]
    return [0 if fraction(a) < fraction(b) else 2]


class OrderTest(unittest.TestCase):
    def test_ordinary(self):
        self.assertEqual(ask_one(order(THIRD, FIFTH)), [0])
        self.assertEqual(ask_one(order(FIFTH, THIRD)), [2])
        self.assertEqual(ask_one(order(FIFTH, FIFTH)), [1])
        self.assertEqual(ask_one(order(ZEROS, ZEROS)), [1])
        self.assertEqual(ask_one(order(inverse(FIFTH), ZEROS)), [0])
        self.assertEqual(ask_one(order(inverse(FIFTH), inverse(THIRD))), [0])

    def test_extremes(self):
        high = [8] * 6
        low = [-8] * 6
        self.assertEqual(ask_one(order(low, high)), [0])
        self.assertEqual(ask_one(order(high, low)), [2])
        self.assertEqual(ask_one(order(high, high)), [1])
        self.assertEqual(ask_one(order(low, low)), [1])

    def test_very_close(self):
        for row in CLOSEST:
            a, b = halved(row)
            self.assertEqual(ask_one(order(a, b)), told_order(a, b))
            self.assertEqual(ask_one(order(b, a)), told_order(b, a))
            self.assertNotEqual(ask_one(order(a, b)), [1])
            self.assertNotEqual(ask_one(order(a, b)), ask_one(order(b, a)))

    def test_any_rows(self):
        source = random.Random(3)
        for turn in range(200):
            a = [source.randint(-8, 8) for prime in PRIMES]
            b = [source.randint(-8, 8) for prime in PRIMES]
            self.assertEqual(ask_one(order(a, b)), told_order(a, b))
            self.assertEqual(ask_one(order(a, a)), [1])

    def test_refused(self):
        for row in BAD_ROWS:
            self.assertEqual(ask_one(order(row, ZEROS)), [-1])
            self.assertEqual(ask_one(order(ZEROS, row)), [-1])
            self.assertEqual(ask_one(order(row, row)), [-1])


class StepsTest(unittest.TestCase):
    def assert_nearest(self, n, row):
        """The answer k is nearest just where 2 k - 1 half steps are lower and 2 k + 1 are higher."""
        answer = ask_one(steps(n, row))
        self.assertEqual(len(answer), 2)
        self.assertEqual(answer[0], 0)
        k = answer[1]
        doubled = fraction(row) ** (2 * n)
        self.assertLess(Fraction(2) ** (2 * k - 1), doubled)
        self.assertLess(doubled, Fraction(2) ** (2 * k + 1))

    def test_ordinary(self):
        self.assertEqual(ask_one(steps(12, FIFTH)), [0, 7])
        self.assertEqual(ask_one(steps(12, THIRD)), [0, 4])
        self.assertEqual(ask_one(steps(31, FIFTH)), [0, 18])
        self.assertEqual(ask_one(steps(31, THIRD)), [0, 10])
        self.assertEqual(ask_one(steps(53, SYNTONIC)), [0, 1])
        self.assertEqual(ask_one(steps(12, SYNTONIC)), [0, 0])
        self.assertEqual(ask_one(steps(12, ZEROS)), [0, 0])

    def test_below_zero(self):
        self.assertEqual(ask_one(steps(12, inverse(FIFTH))), [0, -7])
        self.assertEqual(ask_one(steps(12, inverse(SYNTONIC))), [0, 0])
        self.assertEqual(ask_one(steps(1, [-1, 0, 0, 0, 0, 0])), [0, -1])
        self.assertEqual(ask_one(steps(1, inverse(FIFTH))), [0, -1])

    def test_ends_of_the_range(self):
        self.assertEqual(ask_one(steps(1, FIFTH)), [0, 1])
        self.assertEqual(ask_one(steps(1, THIRD)), [0, 0])
        self.assertEqual(ask_one(steps(100, FIFTH)), [0, 58])
        self.assertEqual(ask_one(steps(100, [8, 0, 0, 0, 0, 0])), [0, 800])
        self.assertEqual(ask_one(steps(100, [-8, 0, 0, 0, 0, 0])), [0, -800])
        for n in (1, 100):
            self.assert_nearest(n, [8] * 6)
            self.assert_nearest(n, [-8] * 6)

    def test_very_close_to_the_middle(self):
        for n, row in MIDDLE:
            for octaves in (-8, 0, 8):
                moved = [octaves] + row[1:]
                self.assert_nearest(n, moved)
                self.assert_nearest(n, inverse(moved))

    def test_very_close_to_a_whole_number(self):
        for row in CLOSEST:
            a, b = halved(row)
            for n in (1, 31, 100):
                self.assert_nearest(n, a)
                self.assert_nearest(n, b)

    def test_any_rows(self):
        source = random.Random(4)
        for turn in range(150):
            self.assert_nearest(source.randint(1, 100), [source.randint(-8, 8) for prime in PRIMES])

    def test_refused(self):
        for wrong in (0, -1, 101, HUGE, -HUGE):
            self.assertEqual(ask_one(steps(wrong, FIFTH)), [-1])
        for row in BAD_ROWS:
            self.assertEqual(ask_one(steps(12, row)), [-1])


class ValTest(unittest.TestCase):
    def test_ordinary(self):
        self.assertEqual(ask_one(val(12)), [0, 12, 19, 28, 34, 42, 44])
        self.assertEqual(ask_one(val(31)), [0, 31, 49, 72, 87, 107, 115])

    def test_ends_of_the_range(self):
        self.assertEqual(ask_one(val(1)), [0, 1, 2, 2, 3, 3, 4])
        self.assertEqual(ask_one(val(100)), [0, 100, 158, 232, 281, 346, 370])

    def test_each_is_nearest(self):
        for n in range(1, 101):
            answer = ask_one(val(n))
            self.assertEqual(len(answer), 7)
            self.assertEqual(answer[0], 0)
            for prime, k in zip(PRIMES, answer[1:]):
                self.assertLess(2 ** (2 * k - 1), prime ** (2 * n))
                self.assertLess(prime ** (2 * n), 2 ** (2 * k + 1))

    def test_refused(self):
        for wrong in (0, -1, 101, HUGE, -HUGE):
            self.assertEqual(ask_one(val(wrong)), [-1])

    def test_steps_of_the_primes(self):
        for n in (1, 7, 12, 100):
            rows = [[1 if at == place else 0 for at in range(6)] for place in range(6)]
            told = ask(*[steps(n, row) for row in rows])
            self.assertEqual([0] + [answer[1] for answer in told], ask_one(val(n)))


if __name__ == "__main__":
    unittest.main()
