"""The calls chord and lead: promise 1."""

import random
import unittest
from fractions import Fraction
from functools import reduce
from itertools import permutations
from math import gcd

from tests.asking import (
    BAD_ROWS, FIFTH, HUGE, PRIMES, SYNTONIC, THIRD, ZEROS, ask_one, chord, fraction, joined, lead, row_of,
)
from tests.test_sizes import CLOSEST, halved

OCTAVE = [1, 0, 0, 0, 0, 0]

# lists that are no rows, or no sound ones
BAD_LISTS = [row for row in BAD_ROWS if row not in ([], [0] * 12)]
BAD_LISTS += [FIFTH + [0], FIFTH + [0] * 5, FIFTH + [0, 0, 9, 0, 0, 0], [0, 0, -9, 0, 0, 0] + FIFTH, [0] * 9996]


def rows_of(words):
    """The rows of the fractions in a text, one behind another."""
    return joined([row_of(Fraction(word)) for word in words.split()])


def told_chord(rows):
    wholes = [fraction(row) for row in rows]
    common = reduce(lambda x, y: x * y // gcd(x, y), [whole.denominator for whole in wholes])
    numbers = [int(whole * common) for whole in wholes]
    divisor = reduce(gcd, numbers)
    return [number // divisor for number in numbers]


class ChordTest(unittest.TestCase):
    def test_ordinary(self):
        self.assertEqual(ask_one(chord(rows_of("1 5/4 3/2"))), [4, 5, 6])
        self.assertEqual(ask_one(chord(rows_of("1 6/5 3/2"))), [10, 12, 15])
        self.assertEqual(ask_one(chord(rows_of("3/2 1 5/4"))), [6, 4, 5])
        self.assertEqual(ask_one(chord(rows_of("1 5/4 3/2 7/4 9/4 11/4 13/4"))), [4, 5, 6, 7, 9, 11, 13])
        self.assertEqual(ask_one(chord(rows_of("1 2/3"))), [3, 2])

    def test_a_common_divisor(self):
        self.assertEqual(ask_one(chord(rows_of("2 4 6"))), [1, 2, 3])
        self.assertEqual(ask_one(chord(rows_of("1/2 1/3 1/6"))), [3, 2, 1])
        self.assertEqual(ask_one(chord(rows_of("10/7 15/7"))), [2, 3])
        # no divisor of two is one of all
        self.assertEqual(ask_one(chord(rows_of("6 10 15"))), [6, 10, 15])

    def test_one_row(self):
        for row in (ZEROS, FIFTH, [8] * 6, [-8] * 6):
            self.assertEqual(ask_one(chord(row)), [1])

    def test_equal_rows(self):
        self.assertEqual(ask_one(chord(FIFTH * 8)), [1] * 8)
        self.assertEqual(ask_one(chord(FIFTH + ZEROS + FIFTH)), [3, 2, 3])

    def test_eight_rows(self):
        self.assertEqual(ask_one(chord(rows_of("1 2 3 4 5 6 7 8"))), [1, 2, 3, 4, 5, 6, 7, 8])

    def test_largest(self):
        self.assertEqual(ask_one(chord([8] * 6 + [-8] * 6)), [30030 ** 16, 1])

    def test_any_rows(self):
        source = random.Random(21)
        for turn in range(60):
            width = source.choice((1, 2, 8))
            rows = [[source.randint(-width, width) for prime in PRIMES] for wanted in range(source.randint(1, 8))]
            self.assertEqual(ask_one(chord(joined(rows))), told_chord(rows))

    def test_refused(self):
        self.assertEqual(ask_one(chord([])), [-1])
        self.assertEqual(ask_one(chord(ZEROS * 9)), [-1])
        for numbers in BAD_LISTS:
            self.assertEqual(ask_one(chord(numbers)), [-1])
        for length in (1, 5, 7, 11, 13, 47, 49):
            self.assertEqual(ask_one(chord([0] * length)), [-1])
        for wrong in (9, -9, HUGE, -HUGE):
            for place in range(48):
                self.assertEqual(ask_one(chord([wrong if at == place else 0 for at in range(48)])), [-1])


def movement(a, b, places):
    """The movement, as a fraction: the product of how far apart they are stands for the sum of the sizes."""
    total = Fraction(1)
    for note, place in zip(a, places):
        difference = fraction(note) / fraction(b[place])
        total *= max(difference, 1 / difference)
    return total


def told_lead(a, b):
    # permutations come in order, and min gives the first of equal ones
    return list(min(permutations(range(len(a))), key=lambda places: movement(a, b, places)))


class LeadTest(unittest.TestCase):
    def assert_lead(self, a, b):
        self.assertEqual(ask_one(lead(joined(a), joined(b))), told_lead(a, b))

    def test_ordinary(self):
        self.assertEqual(ask_one(lead(rows_of("1 5/4 3/2"), rows_of("1 4/3 5/3"))), [0, 1, 2])
        self.assertEqual(ask_one(lead(rows_of("1 5/4 3/2"), rows_of("3/2 15/8 9/8"))), [2, 0, 1])
        self.assertEqual(ask_one(lead(rows_of("3/2 5/4 1"), rows_of("1 4/3 5/3"))), [2, 1, 0])
        self.assertEqual(ask_one(lead(rows_of("1 2 3 4 5"), rows_of("5 4 3 2 1"))), [4, 3, 2, 1, 0])

    def test_which_goes_where(self):
        # a's notes 0, 1, 2 go to b's notes 1, 2, 0: not the other way round
        self.assertEqual(ask_one(lead(rows_of("2 4 8"), rows_of("8 2 4"))), [1, 2, 0])

    def test_one_row(self):
        for a in (ZEROS, FIFTH, [8] * 6):
            for b in (ZEROS, FIFTH, [-8] * 6):
                self.assertEqual(ask_one(lead(a, b)), [0])

    def test_two_rows(self):
        self.assertEqual(ask_one(lead(rows_of("1 2"), rows_of("2 1"))), [1, 0])
        self.assertEqual(ask_one(lead(rows_of("1 2"), rows_of("1 2"))), [0, 1])

    def test_equal_movements(self):
        # all of a's are lower than all of b's: every leading moves as much
        self.assertEqual(ask_one(lead(rows_of("1 5/4 3/2"), rows_of("13/8 7 3"))), [0, 1, 2])
        self.assertEqual(ask_one(lead(rows_of("1 5/4 6/5 9/8 3/2"), rows_of("13 11 7 5 3"))), [0, 1, 2, 3, 4])
        self.assertEqual(ask_one(lead(rows_of("13 11 7 5 3"), rows_of("1 5/4 6/5 9/8 3/2"))), [0, 1, 2, 3, 4])
        # one is bound, and the others are free
        self.assertEqual(ask_one(lead(rows_of("1 3/2 1/5"), rows_of("1/5 7 3"))), [1, 2, 0])
        self.assertEqual(ask_one(lead(rows_of("1 3/2 9"), rows_of("7 3 9"))), told_lead(
            *[[row_of(Fraction(word)) for word in words.split()] for words in ("1 3/2 9", "7 3 9")]
        ))

    def test_equal_notes(self):
        self.assertEqual(ask_one(lead(FIFTH * 5, THIRD * 5)), [0, 1, 2, 3, 4])
        self.assertEqual(ask_one(lead(FIFTH * 5, FIFTH * 5)), [0, 1, 2, 3, 4])
        self.assertEqual(ask_one(lead(FIFTH + THIRD + FIFTH, THIRD + FIFTH + FIFTH)), [1, 0, 2])
        self.assertEqual(ask_one(lead(FIFTH + FIFTH + THIRD, THIRD + FIFTH + FIFTH)), [1, 2, 0])

    def test_very_close_movements(self):
        # notes low, p go to notes high, q: as far in both ways if p isn't higher than q, else the other way is less far
        for row in CLOSEST:
            p, q = sorted(halved(row), key=fraction)
            low = [-8] * 6
            high = [8] * 6
            self.assertEqual(ask_one(lead(low + p, high + q)), [0, 1])
            self.assertEqual(ask_one(lead(low + q, high + p)), [1, 0])
            self.assertEqual(ask_one(lead(low + p, high + p)), [0, 1])
            self.assertEqual(ask_one(lead(low + ZEROS + q, high + low + p)), told_lead([low, ZEROS, q], [high, low, p]))

    def test_movements_of_many_notes(self):
        # each of the differences is close by itself, and only their sum tells
        source = random.Random(22)
        for turn in range(25):
            rows = [half for row in source.sample(CLOSEST, 5) for half in halved(row)]
            self.assert_lead(rows[0::2], rows[1::2])
            source.shuffle(rows)
            self.assert_lead(rows[:5], rows[5:])

    def test_any_rows(self):
        source = random.Random(23)
        for turn in range(60):
            width = source.choice((1, 2, 8))
            count = source.randint(1, 5)
            rows = [[source.randint(-width, width) for prime in PRIMES] for wanted in range(2 * count)]
            self.assert_lead(rows[:count], rows[count:])

    def test_many_equal_ones(self):
        source = random.Random(24)
        choice = [ZEROS, FIFTH, THIRD, OCTAVE, SYNTONIC]
        for turn in range(60):
            count = source.randint(2, 5)
            rows = [source.choice(choice) for at in range(2 * count)]
            self.assert_lead(rows[:count], rows[count:])

    def test_refused(self):
        self.assertEqual(ask_one(lead([], [])), [-1])
        self.assertEqual(ask_one(lead(ZEROS * 6, ZEROS * 6)), [-1])
        for first in range(0, 8):
            for second in range(0, 8):
                answer = list(range(first)) if first == second and 1 <= first <= 5 else [-1]
                self.assertEqual(ask_one(lead(ZEROS * first, ZEROS * second)), answer)
        for numbers in BAD_LISTS + [[]]:
            count = max(1, len(numbers) // 6)
            self.assertEqual(ask_one(lead(numbers, ZEROS * min(count, 5))), [-1])
            self.assertEqual(ask_one(lead(ZEROS * min(count, 5), numbers)), [-1])
            self.assertEqual(ask_one(lead(numbers, numbers)), [-1])
        for wrong in (9, -9, HUGE, -HUGE):
            for place in range(30):
                rows = [wrong if at == place else 0 for at in range(30)]
                self.assertEqual(ask_one(lead(rows, [0] * 30)), [-1])
                self.assertEqual(ask_one(lead([0] * 30, rows)), [-1])


if __name__ == "__main__":
    unittest.main()
