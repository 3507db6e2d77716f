"""The calls round and divide: promise 2."""

import random
import unittest

from tests.asking import (
    BAD_ROWS, FIFTH, HUGE, PRIMES, SYNTONIC, THIRD, ZEROS, ask, ask_one, clear, divide, round_of, temper, val,
)
from tests.test_commas import DIESIS, SEPTIMAL, divisor, one_at, some_commas, told_rank, with_commas


def told_round(row, commas):
    """The least multiple that is a whole sum: by how much the row makes the commas' divisor less."""
    size = told_rank(commas)
    wider = commas + [row]
    if told_rank(wider) != size:
        return 0
    return divisor(commas, size) // divisor(wider, size)


def told_val(n):
    """The val of n by trying: k is nearest just where 2 k - 1 half steps are lower and 2 k + 1 are higher."""
    row = []
    for prime in PRIMES:
        k = 0
        while 2 ** (2 * k + 1) < prime ** (2 * n):
            k += 1
        row.append(k)
    return row


VALS = {n: told_val(n) for n in range(1, 101)}


def told_divide(n, commas):
    for k in range(1, 101):
        if k >= n and all(sum(x * y for x, y in zip(VALS[k], comma)) == 0 for comma in commas):
            return k
    return 0


def mapped_to_nothing(source, division):
    """Some row that the division maps to 0."""
    while True:
        row = [source.randint(-4, 4) for at in range(6)]
        rest = sum(x * y for x, y in zip(division[1:], row[1:]))
        row[0] = -(rest // division[0])
        if rest % division[0] == 0 and abs(row[0]) <= 8:
            return row


class RoundTest(unittest.TestCase):
    def test_no_commas(self):
        self.assertEqual(ask_one(round_of(ZEROS)), [1])
        for row in (FIFTH, SYNTONIC, [8] * 6, [-8] * 6, one_at(5, -1)):
            self.assertEqual(ask_one(round_of(row)), [0])

    def test_zeros(self):
        for commas in ([SYNTONIC], [ZEROS], [SYNTONIC, DIESIS, SEPTIMAL], [one_at(2, 5)] * 6):
            self.assertEqual(with_commas(commas, round_of(ZEROS)), [[1]])

    def test_commas_of_zeros(self):
        self.assertEqual(with_commas([ZEROS, ZEROS], round_of(FIFTH), round_of(ZEROS)), [[0], [1]])

    def test_a_sum_of_commas(self):
        self.assertEqual(with_commas([SYNTONIC], round_of(SYNTONIC), round_of([4, -4, 1, 0, 0, 0])), [[1], [1]])
        both = [x - y for x, y in zip(SYNTONIC, DIESIS)]
        self.assertEqual(max(map(abs, both)) > 8, True)
        both = [x + y for x, y in zip(SYNTONIC, DIESIS)]
        self.assertEqual(with_commas([SYNTONIC, DIESIS], round_of(both)), [[1]])
        self.assertEqual(with_commas([SYNTONIC], round_of([-8, 8, -2, 0, 0, 0])), [[1]])

    def test_a_multiple_alone(self):
        # three thirds are an octave when 128/125 vanishes, and an octave vanishes too
        self.assertEqual(with_commas([DIESIS, one_at(0)], round_of(THIRD), round_of(one_at(2))), [[3], [3]])
        # twelve fifths, seven octaves
        self.assertEqual(with_commas([SYNTONIC, DIESIS, one_at(0)], round_of(FIFTH), round_of(THIRD)), [[12], [3]])
        for place in range(6):
            told = with_commas([one_at(place, 6)], *[round_of(one_at(place, exponent)) for exponent in range(-8, 9)])
            wanted = [3, 6, 1, 6, 3, 2, 3, 6, 1, 6, 3, 2, 3, 6, 1, 6, 3]
            self.assertEqual(told, [[times] for times in wanted])

    def test_half_of_a_sum(self):
        commas = [[1, 1, 0, 0, 0, 0], [1, -1, 0, 0, 0, 0]]
        told = with_commas(commas, round_of(one_at(0)), round_of(one_at(1, 3)), round_of(one_at(2)))
        self.assertEqual(told, [[2], [2], [0]])
        commas = [one_at(0, 3), one_at(1, 5), one_at(2, 7)]
        self.assertEqual(with_commas(commas, round_of([1, 1, 1, 0, 0, 0]), round_of([3, 1, 7, 0, 0, 0])), [[105], [5]])

    def test_no_multiple(self):
        self.assertEqual(with_commas([SYNTONIC], round_of(FIFTH), round_of([-4, 4, -1, 0, 0, 1])), [[0], [0]])
        self.assertEqual(with_commas([SYNTONIC, DIESIS], round_of(one_at(3))), [[0]])
        self.assertEqual(with_commas([[1, 1, 0, 0, 0, 0]], round_of([1, 2, 0, 0, 0, 0])), [[0]])

    def test_large(self):
        commas = [one_at(place, exponent) for place, exponent in enumerate((8, 7, 5, 3, 1, 8))]
        self.assertEqual(with_commas(commas, round_of([1] * 6)), [[840]])
        # the rows of a determinant that is far beyond 8
        commas = [
            [8, 1, 0, 0, 0, 0], [0, 8, 1, 0, 0, 0], [0, 0, 8, 1, 0, 0],
            [0, 0, 0, 8, 1, 0], [0, 0, 0, 0, 8, 1], [1, 0, 0, 0, 0, 8],
        ]
        self.assertEqual(with_commas(commas, round_of(one_at(0))), [[8 ** 6 - 1]])

    def test_any_commas(self):
        source = random.Random(7)
        seen = {}
        for turn in range(150):
            commas = some_commas(source)
            x = [source.randint(-3, 3) for at in range(6)]
            if commas and source.randint(0, 1) == 0:
                common = source.choice((1, 2, 3))
                both = [x + y for x, y in zip(source.choice(commas), source.choice(commas))]
                x = [part // common for part in both] if all(part % common == 0 for part in both) else both
                x = x if max(map(abs, x)) <= 8 else ZEROS
            told = told_round(x, commas)
            seen[min(told, 2)] = seen.get(min(told, 2), 0) + 1
            self.assertEqual(with_commas(commas, round_of(x), round_of([-part for part in x])), [[told], [told]])
        self.assertGreater(min(seen[number] for number in (0, 1, 2)), 10)

    def test_after_clear(self):
        self.assertEqual(ask(temper(FIFTH), round_of(FIFTH), clear(), round_of(FIFTH)), [[1], [1], [0], [0]])

    def test_refused(self):
        for row in BAD_ROWS:
            self.assertEqual(with_commas([SYNTONIC], round_of(row)), [[-1]])
            self.assertEqual(ask_one(round_of(row)), [-1])


class DivideTest(unittest.TestCase):
    def test_no_commas(self):
        told = ask(*[divide(n) for n in (0, 1, 2, 57, 99, 100, 101, 102, 1000, HUGE)])
        self.assertEqual(told, [[1], [1], [2], [57], [99], [100], [0], [0], [0], [0]])

    def test_commas_of_zeros(self):
        self.assertEqual(with_commas([ZEROS, ZEROS], divide(0), divide(40), divide(101)), [[1], [40], [0]])

    def test_ordinary(self):
        self.assertEqual(with_commas([SYNTONIC], divide(6), divide(8), divide(13), divide(20)), [[7], [12], [19], [24]])
        self.assertEqual(with_commas([SYNTONIC, DIESIS], divide(4), divide(13)), [[12], [24]])
        self.assertEqual(with_commas([SYNTONIC, DIESIS], divide(12), divide(24)), [[12], [24]])

    def test_ends_of_the_range(self):
        for comma in (SYNTONIC, DIESIS, SEPTIMAL, [-5, -2, 0, -1, 2, 1]):
            for n in (0, 1, 2, 50, 99, 100, 101, 102, HUGE):
                self.assertEqual(with_commas([comma], divide(n)), [[told_divide(n, [comma])]])

    def test_just_100(self):
        commas = [[3, 3, 3, -4, -1, 0], [5, 2, 1, 4, -2, -4]]
        self.assertEqual(with_commas(commas, divide(0), divide(99), divide(100), divide(101)), [[100]] * 3 + [[0]])

    def test_none_maps_them(self):
        # no division maps an interval like 2/1 to nothing
        for place in range(6):
            self.assertEqual(with_commas([one_at(place)], divide(0), divide(1), divide(100)), [[0], [0], [0]])
        self.assertEqual(with_commas([[8] * 6], divide(0)), [[0]])
        # each by itself is mapped to 0 somewhere, but never both
        self.assertGreater(told_divide(0, [SYNTONIC]), 0)
        self.assertEqual(with_commas([SYNTONIC, one_at(2)], divide(0)), [[0]])

    def test_every_comma_counts(self):
        for commas in ([SYNTONIC, DIESIS, SEPTIMAL], [SEPTIMAL, SYNTONIC], [ZEROS, DIESIS]):
            for n in range(0, 103):
                self.assertEqual(with_commas(commas, divide(n)), [[told_divide(n, commas)]])

    def test_any_commas(self):
        source = random.Random(8)
        found = 0
        for turn in range(100):
            division = VALS[source.randint(1, 100)]
            # a row at will is hardly ever mapped to 0, so most are made so
            commas = [mapped_to_nothing(source, division) for wanted in range(source.randint(1, 3))]
            if source.randint(0, 4) == 0:
                commas.append([source.randint(-8, 8) for at in range(6)])
            begin = source.randint(0, 100)
            told = told_divide(begin, commas)
            found += told > 0
            self.assertEqual(with_commas(commas, divide(begin)), [[told]])
        self.assertGreater(found, 20)
        self.assertLess(found, 80)

    def test_vals_are_those_of_val(self):
        told = ask(*[val(n) for n in range(1, 101)])
        self.assertEqual(told, [[0] + VALS[n] for n in range(1, 101)])

    def test_refused(self):
        for n in (-1, -2, -100, -HUGE):
            self.assertEqual(ask_one(divide(n)), [-1])
            self.assertEqual(with_commas([SYNTONIC], divide(n), divide(0)), [[-1], [told_divide(0, [SYNTONIC])]])


if __name__ == "__main__":
    unittest.main()
