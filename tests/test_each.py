"""The call each: promise 5, and its bounds of promise 1."""

import random
import unittest
from fractions import Fraction
from math import gcd

from tests.asking import BAD_ROWS, FIFTH, HUGE, PRIMES, THIRD, ZEROS, ask_one, each, fraction, row_of

LOWEST = [-8] * 6
HIGHEST = [8] * 6
OCTAVE = [1, 0, 0, 0, 0, 0]


def is_made_of(number, primes):
    """Whether the number has none but the primes whose bit is 1."""
    for place, prime in enumerate(PRIMES):
        while primes >> place & 1 and number % prime == 0:
            number //= prime
    return number == 1


def told_each(most, primes, low, high, given=()):
    """What's told by the words of the document: all numbers u and v are looked at, and each time all bounds."""
    found = []
    for product in range(1, most + 1):
        for u in range(1, product + 1):
            v = product // u
            if product % u == 0 and gcd(u, v) == 1 and is_made_of(product, primes):
                found.append(Fraction(u, v))
    bounds = [lambda whole: fraction(low) <= whole <= fraction(high)]
    told = []
    for whole in found:
        if not all(bound(whole) for bound in bounds):
            continue
        answer = given[len(told)] if len(told) < len(given) else 0
        told.append(whole)
        if answer == 1:
            return [1, len(told)] + numbers_of(told)
        if answer == 2:
            bounds.append(lambda other, here=whole: other < here)
        if answer == 3:
            bounds.append(lambda other, here=whole: other > here)
    return [0, len(told)] + numbers_of(told)


def numbers_of(wholes):
    return [number for whole in wholes for number in (whole.numerator, whole.denominator)]


def told_wholes(answer):
    """The fractions of an answer, each as a pair."""
    if answer[1] * 2 != len(answer) - 2:
        raise AssertionError(f"the count doesn't fit: {answer}")
    return list(zip(answer[2::2], answer[3::2]))


class EachTest(unittest.TestCase):
    def assert_each(self, most, primes, low, high, given=()):
        self.assertEqual(ask_one(each(most, primes, low, high, given)), told_each(most, primes, low, high, given))

    def test_ordinary(self):
        # 1/1, 2/1, 3/2 within an octave
        self.assertEqual(ask_one(each(6, 3, ZEROS, OCTAVE)), [0, 3, 1, 1, 2, 1, 3, 2])
        self.assertEqual(ask_one(each(30, 7, ZEROS, OCTAVE)), [0, 7, 1, 1, 2, 1, 3, 2, 4, 3, 5, 3, 5, 4, 6, 5])
        self.assertEqual(ask_one(each(7, 63, LOWEST, HIGHEST)), [
            0, 15, 1, 1, 1, 2, 2, 1, 1, 3, 3, 1, 1, 4, 4, 1, 1, 5, 5, 1, 1, 6, 2, 3, 3, 2, 6, 1, 1, 7, 7, 1,
        ])

    def test_most(self):
        self.assertEqual(ask_one(each(0, 63, LOWEST, HIGHEST)), [0, 0])
        self.assertEqual(ask_one(each(0, 63, LOWEST, HIGHEST, [1, 2, 3])), [0, 0])
        self.assertEqual(ask_one(each(1, 63, LOWEST, HIGHEST)), [0, 1, 1, 1])
        self.assertEqual(ask_one(each(2, 63, LOWEST, HIGHEST)), [0, 3, 1, 1, 1, 2, 2, 1])
        for most in (16, 17, 18, 255, 256, 257, 499, 500):
            self.assert_each(most, 63, LOWEST, HIGHEST)
        self.assertEqual(ask_one(each(500, 63, LOWEST, HIGHEST))[-2:], [500, 1])

    def test_primes(self):
        self.assertEqual(ask_one(each(500, 0, LOWEST, HIGHEST)), [0, 1, 1, 1])
        for primes in range(64):
            self.assert_each(60, primes, LOWEST, HIGHEST)
        for place, prime in enumerate(PRIMES):
            wholes = told_wholes(ask_one(each(prime, 1 << place, LOWEST, HIGHEST)))
            self.assertEqual(wholes, [(1, 1), (1, prime), (prime, 1)])
            wholes = told_wholes(ask_one(each(500, 63 - (1 << place), LOWEST, HIGHEST)))
            self.assertEqual([pair for pair in wholes if pair[0] * pair[1] % prime == 0], [])
            self.assertGreater(len(wholes), 100)

    def test_powers_of_2(self):
        wholes = told_wholes(ask_one(each(500, 1, LOWEST, HIGHEST)))
        self.assertEqual(wholes[-2:], [(1, 256), (256, 1)])
        self.assertEqual(len(wholes), 17)

    def test_order_of_equal_products(self):
        wholes = told_wholes(ask_one(each(500, 63, LOWEST, HIGHEST)))
        of_60 = [pair for pair in wholes if pair[0] * pair[1] == 60]
        self.assertEqual(of_60, [(1, 60), (3, 20), (4, 15), (5, 12), (12, 5), (15, 4), (20, 3), (60, 1)])
        keys = [(u * v, Fraction(u, v)) for u, v in wholes]
        self.assertEqual(keys, sorted(keys))

    def test_each_once_in_lowest_terms(self):
        wholes = told_wholes(ask_one(each(500, 63, LOWEST, HIGHEST)))
        self.assertEqual(len(set(wholes)), len(wholes))
        self.assertEqual(len({Fraction(u, v) for u, v in wholes}), len(wholes))
        self.assertEqual([pair for pair in wholes if gcd(*pair) != 1], [])

    def test_low_and_high(self):
        self.assertEqual(ask_one(each(500, 63, OCTAVE, ZEROS)), [0, 0])
        self.assertEqual(ask_one(each(500, 63, HIGHEST, LOWEST)), [0, 0])
        self.assertEqual(ask_one(each(500, 63, FIFTH, FIFTH)), [0, 1, 3, 2])
        self.assertEqual(ask_one(each(5, 63, FIFTH, FIFTH)), [0, 0])
        self.assertEqual(ask_one(each(500, 5, FIFTH, FIFTH)), [0, 0])
        self.assertEqual(ask_one(each(500, 63, HIGHEST, HIGHEST)), [0, 0])

    def test_bounds_are_told(self):
        wholes = told_wholes(ask_one(each(500, 63, THIRD, FIFTH)))
        self.assertIn((5, 4), wholes)
        self.assertIn((3, 2), wholes)
        self.assertEqual([pair for pair in wholes if not Fraction(5, 4) <= Fraction(*pair) <= Fraction(3, 2)], [])
        self.assert_each(500, 63, THIRD, FIFTH)
        below = [-x for x in FIFTH]
        self.assert_each(500, 63, below, [-x for x in THIRD])
        self.assertEqual(ask_one(each(6, 63, below, below)), [0, 1, 2, 3])

    def test_bounds_very_close_by(self):
        for near in (Fraction(4375, 4374), Fraction(2401, 2400), Fraction(123201, 123200)):
            for here in (Fraction(3, 2), Fraction(1), Fraction(11, 13)):
                above = row_of(here * near)
                below = row_of(here / near)
                pair = (here.numerator, here.denominator)
                self.assertNotIn(pair, told_wholes(ask_one(each(500, 63, above, HIGHEST))))
                self.assertIn(pair, told_wholes(ask_one(each(500, 63, below, HIGHEST))))
                self.assertIn(pair, told_wholes(ask_one(each(500, 63, LOWEST, above))))
                self.assertNotIn(pair, told_wholes(ask_one(each(500, 63, LOWEST, below))))
                self.assertEqual(told_wholes(ask_one(each(500, 63, below, above))), [pair])

    def test_ends(self):
        self.assertEqual(ask_one(each(500, 63, ZEROS, OCTAVE, [1])), [1, 1, 1, 1])
        self.assertEqual(ask_one(each(500, 63, ZEROS, OCTAVE, [0, 0, 1, 1])), [1, 3, 1, 1, 2, 1, 3, 2])
        # on the very last one
        self.assertEqual(ask_one(each(6, 3, ZEROS, OCTAVE, [0, 0, 1])), [1, 3, 1, 1, 2, 1, 3, 2])
        # one behind the last one is given to none
        self.assertEqual(ask_one(each(6, 3, ZEROS, OCTAVE, [0, 0, 0, 1])), [0, 3, 1, 1, 2, 1, 3, 2])

    def test_only_lower(self):
        self.assertEqual(ask_one(each(12, 3, LOWEST, HIGHEST, [2])), [
            0, 10, 1, 1, 1, 2, 1, 3, 1, 4, 1, 6, 2, 3, 1, 8, 1, 9, 1, 12, 3, 4,
        ])
        self.assertEqual(ask_one(each(500, 63, ZEROS, OCTAVE, [2])), [0, 1, 1, 1])

    def test_only_higher(self):
        self.assertEqual(ask_one(each(12, 3, LOWEST, HIGHEST, [3])), [
            0, 10, 1, 1, 2, 1, 3, 1, 4, 1, 3, 2, 6, 1, 8, 1, 9, 1, 4, 3, 12, 1,
        ])
        self.assertEqual(ask_one(each(12, 3, LOWEST, ZEROS, [3])), [0, 1, 1, 1])

    def test_both_hold_on(self):
        # higher than 1/1, then lower than 2/1, then lower than 3/2, then higher than 4/3
        wholes = told_wholes(ask_one(each(500, 63, LOWEST, HIGHEST, [3, 2, 2, 3])))
        self.assertEqual(wholes[:5], [(1, 1), (2, 1), (3, 2), (4, 3), (7, 5)])
        self.assert_each(500, 63, LOWEST, HIGHEST, [3, 2, 2, 3])
        # a lower one later doesn't open again what a higher one closed
        wholes = told_wholes(ask_one(each(500, 63, LOWEST, HIGHEST, [3, 2, 2, 2, 2])))
        self.assertEqual(wholes[:5], [(1, 1), (2, 1), (3, 2), (4, 3), (5, 4)])
        self.assertEqual([pair for pair in wholes[5:] if not 1 < Fraction(*pair) < Fraction(5, 4)], [])
        wholes = told_wholes(ask_one(each(500, 63, LOWEST, HIGHEST, [3, 2, 3, 2, 3])))
        self.assertEqual(wholes[:4], [(1, 1), (2, 1), (3, 2), (5, 3)])
        self.assertEqual([pair for pair in wholes[4:] if not Fraction(3, 2) < Fraction(*pair) < Fraction(5, 3)], [])

    def test_other_answers(self):
        plain = ask_one(each(100, 63, ZEROS, OCTAVE))
        for other in (0, 4, 5, -1, -2, -3, 10, 100, HUGE, -HUGE):
            self.assertEqual(ask_one(each(100, 63, ZEROS, OCTAVE, [other])), plain)
            self.assertEqual(ask_one(each(100, 63, ZEROS, OCTAVE, [other] * 20)), plain)
            self.assertEqual(ask_one(each(100, 63, ZEROS, OCTAVE, [other, 1])), [1, 2, 1, 1, 2, 1])

    def test_20_and_21_answers(self):
        self.assertEqual(ask_one(each(500, 63, ZEROS, OCTAVE, [0] * 19 + [1]))[:2], [1, 20])
        self.assertEqual(ask_one(each(500, 63, ZEROS, OCTAVE, [0] * 20))[0], 0)
        for length in (21, 22, 10000):
            self.assertEqual(ask_one(each(500, 63, ZEROS, OCTAVE, [0] * length)), [-1])
        # more answers than fractions
        self.assertEqual(ask_one(each(1, 63, ZEROS, OCTAVE, [2] * 20)), [0, 1, 1, 1])
        self.assertEqual(ask_one(each(0, 63, ZEROS, OCTAVE, [1] * 20)), [0, 0])

    def test_any(self):
        source = random.Random(25)
        for turn in range(150):
            width = source.choice((1, 2, 8))
            rows = [[source.randint(-width, width) for prime in PRIMES] for wanted in range(2)]
            rows = sorted(rows, key=fraction) if source.randint(0, 3) else rows
            given = [source.choice((0, 0, 0, 2, 3, 3, 2, 4, -1)) for at in range(source.randint(0, 20))]
            if given and source.randint(0, 2) == 0:
                given[source.randint(0, len(given) - 1)] = 1
            self.assert_each(source.randint(0, 150), source.randint(0, 63), rows[0], rows[1], given)

    def test_refused(self):
        for most in (-1, 501, 502, HUGE, -HUGE):
            self.assertEqual(ask_one(each(most, 63, ZEROS, OCTAVE)), [-1])
        for primes in (-1, 64, 65, 127, HUGE, -HUGE):
            self.assertEqual(ask_one(each(500, primes, ZEROS, OCTAVE)), [-1])
            self.assertEqual(ask_one(each(0, primes, ZEROS, OCTAVE)), [-1])
        for row in BAD_ROWS:
            self.assertEqual(ask_one(each(0, 0, row, OCTAVE)), [-1])
            self.assertEqual(ask_one(each(0, 0, OCTAVE, row)), [-1])
            self.assertEqual(ask_one(each(500, 63, row, row, [1])), [-1])


if __name__ == "__main__":
    unittest.main()
