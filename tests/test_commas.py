"""The calls temper, clear, rank and alike: promise 2."""

import random
import unittest
from itertools import combinations
from math import gcd

from tests.asking import BAD_ROWS, FIFTH, SYNTONIC, THIRD, ZEROS, alike, ask, ask_one, clear, rank, temper

DIESIS = [7, 0, -3, 0, 0, 0]
SEPTIMAL = [6, -2, 0, -1, 0, 0]


def one_at(place, exponent=1):
    return [exponent if at == place else 0 for at in range(6)]


def determinant(rows):
    if not rows:
        return 1
    total = 0
    for place, number in enumerate(rows[0]):
        if number:
            rest = [row[:place] + row[place + 1:] for row in rows[1:]]
            total += (-1) ** place * number * determinant(rest)
    return total


def divisor(rows, size):
    """The greatest common divisor of all determinants of so many rows and columns; 0 if all are 0."""
    common = 0
    for chosen in combinations(rows, size):
        for columns in combinations(range(6), size):
            common = gcd(common, determinant([[row[at] for at in columns] for row in chosen]))
    return common


def told_rank(commas):
    return max(size for size in range(len(commas) + 1) if divisor(commas, size) != 0)


def told_alike(row, commas):
    """Whether the row is a whole sum: just where it raises no rank and makes no divisor less."""
    size = told_rank(commas)
    wider = commas + [row]
    return told_rank(wider) == size and divisor(wider, size) == divisor(commas, size)


def with_commas(commas, *calls):
    """What the calls answer when these commas are kept."""
    return ask(*[temper(comma) for comma in commas], *calls)[len(commas):]


class TemperTest(unittest.TestCase):
    def test_counts_what_is_kept(self):
        told = ask(temper(SYNTONIC), temper(DIESIS), temper(ZEROS), temper(SYNTONIC))
        self.assertEqual(told, [[1], [2], [3], [4]])

    def test_six_and_a_seventh(self):
        told = ask(*[temper(one_at(place)) for place in range(6)], temper(SYNTONIC), temper(ZEROS), rank())
        self.assertEqual(told, [[1], [2], [3], [4], [5], [6], [-6], [-6], [6]])

    def test_a_seventh_is_not_kept(self):
        told = ask(*[temper(ZEROS)] * 6, temper(SYNTONIC), rank(), alike(SYNTONIC, ZEROS))
        self.assertEqual(told[6:], [[-6], [0], [0]])

    def test_which_refusal_counts(self):
        full = [temper(SYNTONIC)] * 6
        for row in BAD_ROWS:
            self.assertEqual(ask(*full, temper(row))[6:], [[-1]])

    def test_refused_keeps_nothing(self):
        for row in BAD_ROWS:
            told = ask(temper(SYNTONIC), temper(row), rank(), temper(DIESIS))
            self.assertEqual(told, [[1], [-1], [1], [2]])

    def test_exponents_8_and_beyond(self):
        for place in range(6):
            told = ask(*[temper(one_at(place, exponent)) for exponent in (8, 9, -8, -9)])
            self.assertEqual(told, [[1], [-1], [2], [-1]])


class ClearTest(unittest.TestCase):
    def test_ordinary(self):
        told = ask(temper(SYNTONIC), clear(), rank(), alike(SYNTONIC, ZEROS), temper(DIESIS), rank())
        self.assertEqual(told, [[1], [0], [0], [0], [1], [1]])

    def test_with_none(self):
        self.assertEqual(ask(clear(), clear(), rank()), [[0], [0], [0]])

    def test_after_six(self):
        told = ask(*[temper(SYNTONIC)] * 7, clear(), *[temper(SYNTONIC)] * 7)
        self.assertEqual(told, [[1], [2], [3], [4], [5], [6], [-6], [0], [1], [2], [3], [4], [5], [6], [-6]])


class RankTest(unittest.TestCase):
    def test_none_and_zeros(self):
        self.assertEqual(ask_one(rank()), [0])
        self.assertEqual(with_commas([ZEROS, ZEROS], rank()), [[0]])

    def test_ordinary(self):
        self.assertEqual(with_commas([SYNTONIC], rank()), [[1]])
        self.assertEqual(with_commas([SYNTONIC, DIESIS], rank()), [[2]])
        self.assertEqual(with_commas([SYNTONIC, SYNTONIC], rank()), [[1]])
        self.assertEqual(with_commas([ZEROS, SYNTONIC, ZEROS, DIESIS, SEPTIMAL], rank()), [[3]])

    def test_sums_of_fractions(self):
        # neither is a whole multiple of the other, but each is a sum of fractions of the other
        self.assertEqual(with_commas([one_at(2, 2), one_at(2, 3)], rank()), [[1]])
        self.assertEqual(with_commas([[2, 4, 0, 0, 0, 0], [3, 6, 0, 0, 0, 0], [-5, -8, 0, 0, 0, 0]], rank()), [[2]])
        third = [1, 1, 0, 0, 0, 0]
        self.assertEqual(with_commas([[3, 1, 0, 0, 0, 0], [1, 3, 0, 0, 0, 0], third], rank()), [[2]])

    def test_each_time_anew(self):
        told = ask(rank(), temper(SYNTONIC), rank(), temper(DIESIS), rank(), temper(ZEROS), rank())
        self.assertEqual(told[::2], [[0], [1], [2], [2]])

    def test_any_commas(self):
        source = random.Random(5)
        for turn in range(60):
            commas = some_commas(source)
            self.assertEqual(with_commas(commas, rank()), [[told_rank(commas)]])


def some_commas(source):
    """Up to 6 rows, some of them zeros and some sums of others, so that no rank is rare."""
    width = source.randint(1, 8)
    commas = []
    for turn in range(source.randint(0, 6)):
        row = [source.randint(-width, width) for at in range(6)]
        if commas and source.randint(0, 2) == 0:
            row = [source.choice((-1, 1)) * x for x in source.choice(commas)]
            other = source.choice(commas)
            both = [x + y for x, y in zip(row, other)]
            row = both if max(map(abs, both)) <= 8 else row
        commas.append(row)
    return commas


class AlikeTest(unittest.TestCase):
    def test_no_commas(self):
        self.assertEqual(ask_one(alike(FIFTH, FIFTH)), [1])
        self.assertEqual(ask_one(alike(ZEROS, ZEROS)), [1])
        self.assertEqual(ask_one(alike(FIFTH, ZEROS)), [0])
        self.assertEqual(ask_one(alike(FIFTH, THIRD)), [0])

    def test_zeros_alone(self):
        told = with_commas([ZEROS, ZEROS], alike(FIFTH, FIFTH), alike(FIFTH, THIRD), alike([8] * 6, [-8] * 6))
        self.assertEqual(told, [[1], [0], [0]])

    def test_ordinary(self):
        # four fifths are two octaves and a third, but for the syntonic comma
        four_fifths = [-4, 4, 0, 0, 0, 0]
        third_above = [0, 0, 1, 0, 0, 0]
        self.assertEqual(with_commas([], alike(four_fifths, third_above)), [[0]])
        self.assertEqual(with_commas([SYNTONIC], alike(four_fifths, third_above)), [[1]])
        self.assertEqual(with_commas([SYNTONIC], alike(third_above, four_fifths)), [[1]])
        self.assertEqual(with_commas([SYNTONIC], alike(FIFTH, FIFTH)), [[1]])
        self.assertEqual(with_commas([DIESIS], alike(four_fifths, third_above)), [[0]])

    def test_order_of_commas_is_nothing(self):
        goal = [x - 2 * y for x, y in zip(DIESIS, SEPTIMAL)]
        for commas in ([SEPTIMAL, DIESIS, ZEROS], [ZEROS, DIESIS, SEPTIMAL], [DIESIS, DIESIS, SEPTIMAL]):
            self.assertEqual(with_commas(commas, alike(goal, ZEROS), alike(SYNTONIC, ZEROS)), [[1], [0]])

    def test_whole_multiples_below_zero(self):
        told = with_commas([one_at(3, 2)], *[alike(one_at(3, exponent), ZEROS) for exponent in range(-8, 9)])
        self.assertEqual(told, [[1 if exponent % 2 == 0 else 0] for exponent in range(-8, 9)])

    def test_fractions_are_not_enough(self):
        for place in range(6):
            told = with_commas([one_at(place, 2)], rank(), alike(one_at(place), ZEROS), alike(one_at(place, 4), ZEROS))
            self.assertEqual(told, [[1], [0], [1]])
        # half the sum of both
        commas = [[1, 1, 0, 0, 0, 0], [1, -1, 0, 0, 0, 0]]
        told = with_commas(commas, rank(), alike(one_at(0), ZEROS), alike(one_at(0, 2), ZEROS), alike(one_at(1), one_at(0)))
        self.assertEqual(told, [[2], [0], [1], [1]])
        # a third of one and two thirds of the other
        commas = [[3, 0, 0, 0, 0, 0], [0, 3, 0, 0, 0, 0]]
        self.assertEqual(with_commas(commas, alike([1, 2, 0, 0, 0, 0], ZEROS), alike([3, -6, 0, 0, 0, 0], ZEROS)), [[0], [1]])

    def test_more_commas_fill_the_gap(self):
        told = ask(
            temper(one_at(4, 6)), alike(one_at(4, 2), ZEROS),
            temper(one_at(4, 4)), alike(one_at(4, 2), ZEROS), alike(one_at(4), ZEROS),
            temper(one_at(4, -5)), alike(one_at(4), ZEROS), rank(),
        )
        self.assertEqual(told, [[1], [0], [2], [1], [0], [3], [1], [1]])

    def test_difference_that_is_not_sound(self):
        # the rows are, and their difference has exponents of 16
        told = with_commas([[8] * 6], alike([8] * 6, [-8] * 6), alike([-8] * 6, [8] * 6), alike([8] * 6, [-8] * 5 + [-7]))
        self.assertEqual(told, [[1], [1], [0]])

    def test_six_commas(self):
        commas = [one_at(place, place + 2) for place in range(6)]
        self.assertEqual(with_commas(commas, rank(), alike([2, 3, 4, 5, 6, 7], ZEROS)), [[6], [1]])
        for place in range(6):
            row = [2, 3, 4, 5, 6, 7]
            row[place] -= 1
            self.assertEqual(with_commas(commas, alike(row, ZEROS), alike(ZEROS, row)), [[0], [0]])

    def test_any_commas(self):
        source = random.Random(6)
        seen = {0: 0, 1: 0}
        for turn in range(120):
            commas = some_commas(source)
            a = [source.randint(-4, 4) for at in range(6)]
            b = list(a)
            for comma in commas:
                times = source.randint(-1, 1)
                b = [x + times * y for x, y in zip(b, comma)]
            if source.randint(0, 1) == 0 and all(x % 2 == y % 2 for x, y in zip(a, b)):
                b = [(x + y) // 2 for x, y in zip(a, b)]
            if max(map(abs, b)) > 8:
                b = [source.randint(-8, 8) for at in range(6)]
            told = 1 if told_alike([x - y for x, y in zip(a, b)], commas) else 0
            seen[told] += 1
            self.assertEqual(with_commas(commas, alike(a, b), alike(b, a)), [[told], [told]])
        self.assertGreater(min(seen.values()), 10)

    def test_small_lattices(self):
        # every difference in two columns, against all whole sums that can reach it
        for first, second in (([3, 1], [1, 2]), ([4, 2], [2, 4]), ([6, 4], [-3, -2]), ([0, 4], [0, 6]), ([2, 0], [1, 5])):
            commas = [first + [0] * 4, second + [0] * 4]
            reached = {
                (s * first[0] + t * second[0], s * first[1] + t * second[1])
                for s in range(-40, 41) for t in range(-40, 41)
            }
            pairs = [(x, y) for x in range(-8, 9) for y in range(-8, 9)]
            told = with_commas(commas, *[alike([x, y, 0, 0, 0, 0], ZEROS) for x, y in pairs])
            self.assertEqual(told, [[1 if pair in reached else 0] for pair in pairs])

    def test_refused(self):
        for row in BAD_ROWS:
            self.assertEqual(with_commas([SYNTONIC], alike(row, ZEROS)), [[-1]])
            self.assertEqual(with_commas([SYNTONIC], alike(ZEROS, row)), [[-1]])
            self.assertEqual(with_commas([], alike(row, row)), [[-1]])


if __name__ == "__main__":
    unittest.main()
