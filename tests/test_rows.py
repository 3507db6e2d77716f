"""The calls of, ratio, sum, map, measure and arrange."""

import random
import unittest
from math import gcd

from tests.asking import (
    BAD_ROWS, FIFTH, HUGE, PRIMES, SYNTONIC, THIRD, ZEROS,
    arrange, ask, ask_one, fraction, joined, map_of, measure, of, ratio, sum_of,
)


def some_rows(count, seed=1):
    source = random.Random(seed)
    return [[source.randint(-8, 8) for prime in PRIMES] for turn in range(count)]


class OfTest(unittest.TestCase):
    def test_ordinary(self):
        self.assertEqual(ask_one(of(3, 2)), [0] + FIFTH)
        self.assertEqual(ask_one(of(5, 4)), [0] + THIRD)
        self.assertEqual(ask_one(of(81, 80)), [0] + SYNTONIC)
        self.assertEqual(ask_one(of(1001, 30)), [0, -1, -1, -1, 1, 1, 1])
        self.assertEqual(ask_one(of(2, 3)), [0, 1, -1, 0, 0, 0, 0])

    def test_not_in_lowest_terms(self):
        self.assertEqual(ask_one(of(6, 4)), [0] + FIFTH)
        self.assertEqual(ask_one(of(30030, 20020)), [0] + FIFTH)
        self.assertEqual(ask_one(of(7, 7)), [0] + ZEROS)
        # neither number by itself has a sound row
        self.assertEqual(ask_one(of(2 ** 40 * 3, 2 ** 41)), [0] + FIFTH)

    def test_ends_of_the_range(self):
        self.assertEqual(ask_one(of(1, 1)), [0] + ZEROS)
        self.assertEqual(ask_one(of(HUGE, HUGE)), [0] + ZEROS)
        # 10^18 is 2^18 5^18
        self.assertEqual(ask_one(of(HUGE, 1)), [-1])
        self.assertEqual(ask_one(of(1, HUGE)), [-1])
        self.assertEqual(ask_one(of(HUGE, 10 ** 10)), [0, 8, 0, 8, 0, 0, 0])
        self.assertEqual(ask_one(of(10 ** 10, HUGE)), [0, -8, 0, -8, 0, 0, 0])

    def test_out_of_the_range(self):
        for wrong in (0, -1, -2, -HUGE):
            self.assertEqual(ask_one(of(wrong, 1)), [-1])
            self.assertEqual(ask_one(of(1, wrong)), [-1])
            self.assertEqual(ask_one(of(wrong, wrong)), [-1])
        self.assertEqual(ask_one(of(HUGE + 1, 1)), [-1])
        self.assertEqual(ask_one(of(1, HUGE + 1)), [-1])

    def test_prime_above_13(self):
        self.assertEqual(ask_one(of(17, 1)), [-2])
        self.assertEqual(ask_one(of(1, 17)), [-2])
        self.assertEqual(ask_one(of(19, 17)), [-2])
        self.assertEqual(ask_one(of(17 * 17, 17)), [-2])
        self.assertEqual(ask_one(of(17 * 19, 19 * 2)), [-2])
        self.assertEqual(ask_one(of(HUGE - 11, 1)), [-2])
        self.assertEqual(ask_one(of(2 * 289, 3 * 323)), [-2])

    def test_prime_above_13_that_cancels(self):
        self.assertEqual(ask_one(of(17 * 3, 17 * 2)), [0] + FIFTH)
        self.assertEqual(ask_one(of(17 * 17 * 19 * 5, 17 * 17 * 19 * 4)), [0] + THIRD)
        self.assertEqual(ask_one(of(HUGE - 11, HUGE - 11)), [0] + ZEROS)

    def test_exponents_8_and_beyond(self):
        for place, prime in enumerate(PRIMES):
            row = [8 if at == place else 0 for at in range(6)]
            self.assertEqual(ask_one(of(prime ** 8, 1)), [0] + row)
            self.assertEqual(ask_one(of(1, prime ** 8)), [0] + [-exponent for exponent in row])
            self.assertEqual(ask_one(of(prime ** 9, 1)), [-1])
            self.assertEqual(ask_one(of(1, prime ** 9)), [-1])

    def test_which_refusal_counts(self):
        self.assertEqual(ask_one(of(17 * 512, 1)), [-2])
        self.assertEqual(ask_one(of(512, 17)), [-2])
        self.assertEqual(ask_one(of(17, 0)), [-1])
        self.assertEqual(ask_one(of(0, 17)), [-1])
        self.assertEqual(ask_one(of(17 * 512, 17)), [-1])

    def test_brings_back_what_ratio_tells(self):
        for n in range(1, 120):
            for d in range(1, 60):
                answer = ask_one(of(n, d))
                if len(answer) == 1:
                    continue
                both = ask_one(ratio(answer[1:]))
                common = gcd(n, d)
                self.assertEqual(both, [n // common, d // common])


class RatioTest(unittest.TestCase):
    def test_ordinary(self):
        self.assertEqual(ask_one(ratio(ZEROS)), [1, 1])
        self.assertEqual(ask_one(ratio(FIFTH)), [3, 2])
        self.assertEqual(ask_one(ratio(SYNTONIC)), [81, 80])
        self.assertEqual(ask_one(ratio([1, -1, 0, 0, 0, 0])), [2, 3])

    def test_largest(self):
        self.assertEqual(ask_one(ratio([8] * 6)), [30030 ** 8, 1])
        self.assertEqual(ask_one(ratio([-8] * 6)), [1, 30030 ** 8])

    def test_any_rows(self):
        for row in some_rows(50):
            whole = fraction(row)
            self.assertEqual(ask_one(ratio(row)), [whole.numerator, whole.denominator])

    def test_refused(self):
        for row in BAD_ROWS:
            self.assertEqual(ask_one(ratio(row)), [-1])


class SumTest(unittest.TestCase):
    def test_ordinary(self):
        self.assertEqual(ask_one(sum_of(1, 1, FIFTH, THIRD)), [0, -3, 1, 1, 0, 0, 0])
        self.assertEqual(ask_one(sum_of(4, -1, FIFTH, THIRD)), [0, -2, 4, -1, 0, 0, 0])
        self.assertEqual(ask_one(sum_of(0, 0, [8] * 6, [-8] * 6)), [0] + ZEROS)
        self.assertEqual(ask_one(sum_of(0, -1, FIFTH, [1, 2, 3, 4, 5, 6])), [0, -1, -2, -3, -4, -5, -6])

    def test_ends_of_the_range(self):
        self.assertEqual(ask_one(sum_of(1000, -1000, FIFTH, FIFTH)), [0] + ZEROS)
        self.assertEqual(ask_one(sum_of(-1000, 1000, [8] * 6, [8] * 6)), [0] + ZEROS)
        self.assertEqual(ask_one(sum_of(1000, 999, [1, 0, 0, 0, 0, 0], [-1, 0, 0, 0, 0, 0])), [0, 1, 0, 0, 0, 0, 0])

    def test_out_of_the_range(self):
        for wrong in (1001, -1001, HUGE, -HUGE):
            self.assertEqual(ask_one(sum_of(wrong, 0, ZEROS, ZEROS)), [-1])
            self.assertEqual(ask_one(sum_of(0, wrong, ZEROS, ZEROS)), [-1])

    def test_unsound_sum(self):
        for place in range(6):
            one = [1 if at == place else 0 for at in range(6)]
            eight = [8 * exponent for exponent in one]
            self.assertEqual(ask_one(sum_of(8, 0, one, ZEROS)), [0] + eight)
            self.assertEqual(ask_one(sum_of(0, -8, ZEROS, one)), [0] + [-exponent for exponent in eight])
            self.assertEqual(ask_one(sum_of(9, 0, one, ZEROS)), [-4])
            self.assertEqual(ask_one(sum_of(1, 1, one, eight)), [-4])
            self.assertEqual(ask_one(sum_of(-1, -1, one, eight)), [-4])
            self.assertEqual(ask_one(sum_of(1000, 1000, one, eight)), [-4])

    def test_which_refusal_counts(self):
        self.assertEqual(ask_one(sum_of(1001, 0, FIFTH, FIFTH)), [-1])
        self.assertEqual(ask_one(sum_of(1, 0, [9, 0, 0, 0, 0, 0], FIFTH)), [-1])
        self.assertEqual(ask_one(sum_of(9, 0, FIFTH, [0, 0, 0, 0, 0, 9])), [-1])

    def test_refused_rows(self):
        for row in BAD_ROWS:
            self.assertEqual(ask_one(sum_of(0, 0, row, ZEROS)), [-1])
            self.assertEqual(ask_one(sum_of(0, 0, ZEROS, row)), [-1])


class MapTest(unittest.TestCase):
    def test_ordinary(self):
        twelve = [12, 19, 28, 34, 42, 44]
        self.assertEqual(ask_one(map_of(twelve, FIFTH)), [0, 7])
        self.assertEqual(ask_one(map_of(twelve, SYNTONIC)), [0, 0])
        self.assertEqual(ask_one(map_of(ZEROS, twelve)), [0, 0])
        self.assertEqual(ask_one(map_of([1, 2, 3, 4, 5, 6], [6, 5, 4, 3, 2, 1])), [0, 56])
        self.assertEqual(ask_one(map_of(twelve, [1, -1, 0, 0, 0, 0])), [0, -7])

    def test_each_exponent_counts(self):
        for place in range(6):
            one = [1 if at == place else 0 for at in range(6)]
            self.assertEqual(ask_one(map_of([2, 3, 5, 7, 11, 13], one)), [0, PRIMES[place]])

    def test_ends_of_the_range(self):
        most = [10 ** 6] * 6
        least = [-10 ** 6] * 6
        self.assertEqual(ask_one(map_of(most, most)), [0, 6 * 10 ** 12])
        self.assertEqual(ask_one(map_of(most, least)), [0, -6 * 10 ** 12])
        self.assertEqual(ask_one(map_of(least, least)), [0, 6 * 10 ** 12])

    def test_out_of_the_range(self):
        for wrong in (10 ** 6 + 1, -10 ** 6 - 1, HUGE, -HUGE):
            for place in range(6):
                row = [wrong if at == place else 0 for at in range(6)]
                self.assertEqual(ask_one(map_of(row, ZEROS)), [-1])
                self.assertEqual(ask_one(map_of(ZEROS, row)), [-1])

    def test_wrong_lengths(self):
        for row in ([], [0], [0] * 5, [0] * 7, [0] * 12, [0] * 10000):
            self.assertEqual(ask_one(map_of(row, ZEROS)), [-1])
            self.assertEqual(ask_one(map_of(ZEROS, row)), [-1])
            self.assertEqual(ask_one(map_of(row, row)), [-1])


def told_measure(k, row):
    """Measure k by the words of the document, from the fraction alone."""
    u = fraction(row).numerator
    v = fraction(row).denominator
    found = []
    for number in (u, v):
        for prime in PRIMES:
            while number % prime == 0:
                number //= prime
                found.append(prime)
    if k == 0:
        return u * v
    if k == 1:
        return max(u, v)
    if k == 2:
        return max(u // (u & -u), v // (v & -v))
    if k == 3:
        return max(found + [1])
    if k == 4:
        return 1 + sum(prime - 1 for prime in found)
    return len(found)


class MeasureTest(unittest.TestCase):
    def test_ordinary(self):
        told = [ask_one(measure(k, SYNTONIC)) for k in range(6)]
        self.assertEqual(told, [[6480], [81], [81], [5], [17], [9]])
        told = [ask_one(measure(k, [4, -1, -1, 0, 0, 0])) for k in range(6)]
        self.assertEqual(told, [[240], [16], [15], [5], [11], [6]])
        told = [ask_one(measure(k, [-3, 0, 0, 1, 0, 0])) for k in range(6)]
        self.assertEqual(told, [[56], [8], [7], [7], [10], [4]])

    def test_zeros(self):
        told = [ask_one(measure(k, ZEROS)) for k in range(6)]
        self.assertEqual(told, [[1], [1], [1], [1], [1], [0]])

    def test_octave(self):
        told = [ask_one(measure(k, [1, 0, 0, 0, 0, 0])) for k in range(6)]
        self.assertEqual(told, [[2], [2], [1], [2], [2], [1]])

    def test_any_rows(self):
        for row in some_rows(40, 2) + [[8] * 6, [-8] * 6]:
            for k in range(6):
                self.assertEqual(ask_one(measure(k, row)), [told_measure(k, row)])

    def test_refused(self):
        for wrong in (-1, 6, 7, HUGE, -HUGE):
            self.assertEqual(ask_one(measure(wrong, FIFTH)), [-1])
        for row in BAD_ROWS:
            for k in range(6):
                self.assertEqual(ask_one(measure(k, row)), [-1])


class ArrangeTest(unittest.TestCase):
    def test_ordinary(self):
        rows = joined([SYNTONIC, FIFTH, ZEROS, THIRD])
        for k in (0, 1, 2, 4, 5):
            self.assertEqual(ask_one(arrange(k, rows)), [4, 2, 1, 3, 0])
        # 81/80 and 5/4 both have 5 as their greatest prime
        self.assertEqual(ask_one(arrange(3, rows)), [4, 2, 1, 0, 3])

    def test_measures_differ(self):
        # 8/1, 7/6, 9/5
        rows = joined([[3, 0, 0, 0, 0, 0], [-1, -1, 0, 1, 0, 0], [0, 2, -1, 0, 0, 0]])
        told = [ask_one(arrange(k, rows)) for k in range(6)]
        self.assertEqual(told[0], [3, 0, 1, 2])
        self.assertEqual(told[1], [3, 1, 0, 2])
        self.assertEqual(told[2], [3, 0, 1, 2])
        self.assertEqual(told[3], [3, 0, 2, 1])
        self.assertEqual(told[4], [3, 0, 2, 1])
        self.assertEqual(told[5], [3, 0, 1, 2])

    def test_no_rows(self):
        for k in range(6):
            self.assertEqual(ask_one(arrange(k, [])), [0])

    def test_one_row(self):
        self.assertEqual(ask_one(arrange(0, [8] * 6)), [1, 0])

    def test_equal_measures_stay_as_they_stand(self):
        inverse = [1, -1, 0, 0, 0, 0]
        for k in range(6):
            self.assertEqual(ask_one(arrange(k, joined([FIFTH, inverse, FIFTH]))), [3, 0, 1, 2])
            self.assertEqual(ask_one(arrange(k, joined([inverse, FIFTH, ZEROS, inverse]))), [4, 2, 0, 1, 3])
        self.assertEqual(ask_one(arrange(0, ZEROS * 20)), [20] + list(range(20)))

    def test_twenty_rows(self):
        for seed in range(5):
            rows = some_rows(20, seed)
            for k in range(6):
                places = sorted(range(20), key=lambda place: (told_measure(k, rows[place]), place))
                self.assertEqual(ask_one(arrange(k, joined(rows))), [20] + places)

    def test_too_many(self):
        self.assertEqual(ask_one(arrange(0, ZEROS * 21)), [-1])
        self.assertEqual(ask_one(arrange(0, ZEROS * 1666)), [-1])

    def test_no_multiple_of_six(self):
        for length in (1, 5, 7, 11, 13, 119, 121, 10000):
            self.assertEqual(ask_one(arrange(0, [0] * length)), [-1])

    def test_refused(self):
        for wrong in (-1, 6, HUGE, -HUGE):
            self.assertEqual(ask_one(arrange(wrong, [])), [-1])
            self.assertEqual(ask_one(arrange(wrong, FIFTH)), [-1])
        for wrong in (9, -9, HUGE, -HUGE):
            for place in range(18):
                rows = [wrong if at == place else 0 for at in range(18)]
                self.assertEqual(ask_one(arrange(5, rows)), [-1])


class SoundTest(unittest.TestCase):
    def test_exponents_8_and_just_beyond(self):
        for place in range(6):
            for exponent in (8, -8):
                row = [exponent if at == place else 0 for at in range(6)]
                self.assertEqual(ask(ratio(row), measure(5, row), arrange(5, row))[1:], [[8], [1, 0]])
            for exponent in (9, -9):
                row = [exponent if at == place else 0 for at in range(6)]
                self.assertEqual(ask(ratio(row), measure(5, row), arrange(5, row)), [[-1], [-1], [-1]])


if __name__ == "__main__":
    unittest.main()
