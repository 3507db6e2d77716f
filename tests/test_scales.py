"""The calls degree, near, mode, shape and kind: promises 1 and 4."""

import random
import unittest
from fractions import Fraction

from tests.asking import (
    BAD_ROWS, FIFTH, HUGE, PRIMES, SYNTONIC, THIRD, ZEROS,
    ask, ask_one, degree, fraction, kind, mode, near, notes_of, read, row_of, scale_after, shape, text_of, write,
)
from tests.test_texts import STAIRS

MAJOR = "9/8 5/4 4/3 3/2 5/3 15/8 2"
PENTATONIC = "9/8 4/3 3/2 27/16 2"
PYTHAGOREAN = "9/8 81/64 4/3 3/2 27/16 243/128 2"
# a period of large exponents, hardly higher than 5/4; and one of the largest there are
NARROW = [-8, 7, 8, -7, 7, -7]
WIDE = [8, 7, 8, -3, 2, 1]

# a period, and rows whose size is nearest of all to the middle between two whole numbers of periods
MIDDLES = [
    ([1, 0, 0, 0, 0, 0], [[-3, 3, 6, -6, 1, -4], [8, 6, -1, -1, -3, -5], [-6, 3, 7, 7, -1, -1]]),
    (THIRD, [[4, 5, 6, -8, 8, 4], [5, -5, 3, 3, -5, -3], [8, -1, 3, -5, -8, -1]]),
    ([0, 1, 0, 0, 0, 0], [[3, 8, 6, -5, 0, 5], [-4, 6, 3, 4, 3, -3], [-5, 8, 3, 2, -7, -3]]),
    (WIDE, [[-1, 1, 6, 1, 8, 4], [8, -3, 4, 0, 0, 2], [2, -7, 2, -5, 6, -6]]),
    (NARROW, [[-4, -6, -1, -1, 7, -2], [-3, -1, 3, 0, -4, -6], [4, -4, -8, 2, 1, -5]]),
]

# a period, and rows whose size is nearest of all to a whole number of periods, one of which they aren't
EDGES = [
    ([1, 0, 0, 0, 0, 0], [[8, -2, -4, -4, -7, 7], [8, 3, -7, 5, -4, -1], [8, -7, -1, 0, 2, -5]]),
    (THIRD, [[-8, 4, -8, -3, -6, 1], [7, 4, -2, -8, -3, 2], [8, -6, -5, -8, 0, -3]]),
    ([0, 1, 0, 0, 0, 0], [[-8, -4, -3, 7, -7, -8], [-8, 8, 6, 8, 6, -6], [3, 6, 5, 8, -4, 7]]),
    (WIDE, [[6, 7, -5, 6, 4, 1], [-6, -4, -2, -5, 6, -8], [2, 3, 6, -8, 8, -7]]),
    (NARROW, [[-7, -7, 2, -1, 3, -8], [8, 2, -7, 3, -6, -3], [-3, 6, -2, 1, 1, 3]]),
]


def inverse(row):
    return [-exponent for exponent in row]


def times(count, row):
    return [count * exponent for exponent in row]


def told_degree(notes, k):
    """Degree k, by going there from a degree between 0 and N period by period."""
    row = ZEROS
    place = k
    while place > len(notes):
        row = [x + y for x, y in zip(row, notes[-1])]
        place -= len(notes)
    while place < 0:
        row = [x - y for x, y in zip(row, notes[-1])]
        place += len(notes)
    note = ([ZEROS] + notes)[place]
    return [x + y for x, y in zip(row, note)]


def told_near(notes, x):
    """The nearest degree, by going down or up period by period and looking at each degree around."""
    period = fraction(notes[-1])
    left = fraction(x)
    periods = 0
    while left >= period:
        left /= period
        periods += 1
    while left < 1:
        left *= period
        periods -= 1
    apart = []
    for k in range(-1, len(notes) + 2):
        here = fraction(told_degree(notes, k))
        apart.append((max(left / here, here / left), k))
    return min(apart)[1] + periods * len(notes)


def told_mode(notes, k):
    """The notes of the mode from degree k."""
    start = told_degree(notes, k)
    return [[x - y for x, y in zip(told_degree(notes, k + i), start)] for i in range(1, len(notes) + 1)]


def some_scale(source, most=24, width=8):
    """Notes of a scale at will."""
    while True:
        wholes = set()
        for wanted in range(source.randint(1, most)):
            whole = fraction([source.randint(-width, width) for prime in PRIMES])
            wholes.add(max(whole, 1 / whole))
        wholes.discard(Fraction(1))
        if wholes and max(wholes) >= Fraction(5, 4):
            return [row_of(whole) for whole in sorted(wholes)]


def scale_of_steps(steps):
    """The notes of a scale with these steps, which are fractions."""
    notes = []
    whole = Fraction(1)
    for step in steps:
        whole *= step
        notes.append(row_of(whole))
    return notes


def with_scale(notes, *calls):
    """What the calls answer when the scale has these notes."""
    told = ask(read(text_of(notes)), *calls)
    if told[0] != [len(notes)]:
        raise AssertionError(f"no scale: {notes}: {told[0]}")
    return told[1:]


class NoScaleTest(unittest.TestCase):
    def test_before_all_else(self):
        calls = [write(), shape(), kind()]
        for number in (0, 1, -1, 1000, 1001, -1001, HUGE, -HUGE):
            calls += [degree(number), mode(number)]
        for row in BAD_ROWS + [FIFTH, ZEROS]:
            calls.append(near(row))
        for call in calls:
            self.assertEqual(ask_one(call), [-5])
        self.assertEqual(ask(*calls), [[-5]] * len(calls))

    def test_after_a_refused_text(self):
        for text in ("", "x", "6/5"):
            told = ask(read(text), write(), degree(0), near(ZEROS), mode(0), shape(), kind())
            self.assertEqual(told[1:], [[-5]] * 6)


class DegreeTest(unittest.TestCase):
    def test_ordinary(self):
        notes = notes_of(MAJOR)
        self.assertEqual(with_scale(notes, degree(0), degree(4)), [[0] + ZEROS, [0] + FIFTH])
        self.assertEqual(with_scale(notes, *[degree(k) for k in range(1, 8)]), [[0] + note for note in notes])
        # 9/4 and 15/16
        self.assertEqual(with_scale(notes, degree(8), degree(-1)), [[0, -2, 2, 0, 0, 0, 0], [0, -4, 1, 1, 0, 0, 0]])

    def test_one_note(self):
        told = with_scale([FIFTH], *[degree(k) for k in range(-9, 10)])
        self.assertEqual(told, [[-4]] + [[0] + times(k, FIFTH) for k in range(-8, 9)] + [[-4]])

    def test_ends_of_the_range(self):
        for notes in ([FIFTH], notes_of(MAJOR)):
            told = with_scale(notes, *[degree(k) for k in (1000, -1000, 1001, -1001, HUGE, -HUGE)])
            self.assertEqual(told, [[-4], [-4], [-1], [-1], [-1], [-1]])
        notes = scale_of_steps([Fraction(2)] * 2)
        self.assertEqual(with_scale(notes, degree(8), degree(-8), degree(9), degree(-9)), [
            [0, 8, 0, 0, 0, 0, 0], [0, -8, 0, 0, 0, 0, 0], [-4], [-4],
        ])

    def test_not_sound(self):
        notes = notes_of("9/8 5/4 2")
        for k in range(-40, 41):
            row = told_degree(notes, k)
            wanted = [0] + row if max(map(abs, row)) <= 8 else [-4]
            self.assertEqual(with_scale(notes, degree(k)), [wanted])
        self.assertEqual(with_scale([[8] * 6], degree(1), degree(2), degree(-1), degree(-2)), [
            [0] + [8] * 6, [-4], [0] + [-8] * 6, [-4],
        ])

    def test_unsound_between_sound_ones(self):
        # degree -1 is 3^8 over 7^8 less 7^8, and degree -2 is as sound as degree 0
        notes = [[0, 0, 0, -8, 8, 0], [0, 0, 0, 8, 0, 0]]
        self.assertEqual(with_scale(notes, degree(-2), degree(-1), degree(0), degree(1)), [
            [0, 0, 0, 0, -8, 0, 0], [-4], [0] + ZEROS, [0] + notes[0],
        ])

    def test_any_scale(self):
        source = random.Random(13)
        for turn in range(30):
            notes = some_scale(source, width=source.choice((1, 2, 8)))
            numbers = [0, 1, -1, len(notes), len(notes) + 1, -len(notes)]
            numbers += [source.randint(-60, 60), source.randint(-1000, 1000)]
            rows = [told_degree(notes, k) for k in numbers]
            wanted = [[0] + row if max(map(abs, row)) <= 8 else [-4] for row in rows]
            self.assertEqual(with_scale(notes, *[degree(k) for k in numbers]), wanted)


class NearTest(unittest.TestCase):
    def assert_near(self, notes, row):
        self.assertEqual(with_scale(notes, near(row)), [[0, told_near(notes, row)]])

    def test_ordinary(self):
        notes = notes_of(MAJOR)
        self.assertEqual(with_scale(notes, near(ZEROS), near(FIFTH), near(THIRD)), [[0, 0], [0, 4], [0, 2]])
        # 81/64 lies by 5/4, 80/81 and 81/80 by 1/1, 3/1 and 1/3 elsewhere
        told = with_scale(notes, near([-6, 4, 0, 0, 0, 0]), near(SYNTONIC), near(inverse(SYNTONIC)))
        self.assertEqual(told, [[0, 2], [0, 0], [0, 0]])
        told = with_scale(notes, near([0, 1, 0, 0, 0, 0]), near([0, -1, 0, 0, 0, 0]))
        self.assertEqual(told, [[0, 11], [0, -11]])

    def test_each_degree(self):
        notes = notes_of(MAJOR)
        for k in range(-30, 31):
            row = told_degree(notes, k)
            self.assertEqual(with_scale(notes, near(row)), [[0, k]])

    def test_as_near_to_two(self):
        # the lower one's, above 1/1 and below
        self.assertEqual(with_scale([[2, 0, 0, 0, 0, 0]], *[near([k, 0, 0, 0, 0, 0]) for k in range(-8, 9)]), [
            [0, k // 2] for k in range(-8, 9)
        ])
        halves = (FIFTH, THIRD, [1, -1, 3, -2, 1, 0], [4, -3, -1, 2, -1, 0], [0, 0, 0, 0, 0, 1], [-4, 4, 4, -4, 4, -3])
        for half in halves:
            half = half if fraction(half) > 1 else inverse(half)
            period = times(2, half)
            for count in (-1, 1):
                self.assertEqual(with_scale([period], near(times(count, half))), [[0, (count - 1) // 2]])
        # between two notes of the scale: 9/8 and 2/1 are as far from 3/2
        self.assertEqual(with_scale(notes_of("9/8 2"), near(FIFTH), near([-2, 1, 0, 0, 0, 0])), [[0, 1], [0, -1]])

    def test_halves_far_from_1(self):
        # many periods away, where a rounded logarithm would no longer know
        for half in ([-1, 1, 0, 0, 0, 0], [3, -1, 0, 0, 0, 0], [-3, 1, 1, 0, 0, 0], [0, 0, 0, 0, -1, 1]):
            self.assertGreater(fraction(half), 1)
            period = times(2, half)
            if fraction(period) < Fraction(5, 4):
                period = times(4, half)
                half = times(2, half)
            for count in range(-8, 9):
                row = times(count, half)
                if max(map(abs, row)) <= 8:
                    self.assertEqual(with_scale([period], near(row)), [[0, count // 2]])

    def test_very_close_to_the_middle(self):
        for period, rows in MIDDLES:
            for row in rows + [inverse(row) for row in rows]:
                self.assert_near([period], row)
                # none is just as near to two: so the interval turned round is by the degree turned round
                told = with_scale([period], near(row), near(inverse(row)))
                self.assertEqual(told[0][1], -told[1][1])

    def test_very_close_to_a_period(self):
        for period, rows in EDGES:
            for row in rows + [inverse(row) for row in rows]:
                self.assert_near([period], row)
                if period[0] == 1:
                    self.assert_near(notes_of(MAJOR), row)
                    self.assert_near(notes_of("81/80 2"), row)
                    self.assert_near(notes_of("160/81 2"), row)

    def test_just_below_a_new_period(self):
        notes = notes_of(MAJOR)
        # one and more periods, less 2401/2400
        for count in range(-3, 8):
            row = [5 + count, 1, 2, -4, 0, 0]
            if max(map(abs, row)) <= 8:
                self.assertEqual(with_scale(notes, near(row)), [[0, 7 * count]])
                self.assertEqual(with_scale([[1, 0, 0, 0, 0, 0]], near(row)), [[0, count]])

    def test_far_above_and_below(self):
        scales = [notes_of(text) for text in (MAJOR, "5/4", "81/80 5/4", "81/80 8")] + [[NARROW], [WIDE], [[8] * 6]]
        for notes in scales:
            for row in ([8] * 6, [-8] * 6, [8, 0, 0, 0, 0, 0], [0, 0, 0, 0, 0, -8], [8, 8, 8, 8, 8, 7]):
                self.assert_near(notes, row)
        self.assertEqual(with_scale([THIRD], near([8] * 6), near([-8] * 6)), [[0, 370], [0, -370]])
        self.assertEqual(with_scale([[8] * 6], near([8] * 6), near([-8] * 6)), [[0, 1], [0, -1]])

    def test_very_large_period(self):
        # the period's half is just in the middle
        period = [8] * 6
        half = [4] * 6
        rows = [half, inverse(half), [4, 4, 4, 4, 5, 4], [5, 3, 4, 4, 4, 4], ZEROS]
        told = with_scale([period], *[near(row) for row in rows])
        self.assertEqual(told, [[0, 0], [0, -1], [0, 1], [0, 0], [0, 0]])
        self.assert_near([SYNTONIC, period], half)
        self.assert_near([FIFTH, period], inverse(FIFTH))

    def test_any_scale(self):
        source = random.Random(14)
        for turn in range(120):
            notes = some_scale(source, width=source.choice((1, 2, 8)))
            for width in (1, 2, 8):
                self.assert_near(notes, [source.randint(-width, width) for prime in PRIMES])

    def test_24_notes(self):
        notes = [row_of(whole) for whole in STAIRS]
        self.assertEqual(len(notes), 24)
        source = random.Random(15)
        for turn in range(40):
            self.assert_near(notes, [source.randint(-8, 8) for prime in PRIMES])

    def test_refused(self):
        for row in BAD_ROWS:
            self.assertEqual(with_scale(notes_of(MAJOR), near(row)), [[-1]])


class ModeTest(unittest.TestCase):
    def test_ordinary(self):
        self.assertEqual(scale_after(read(MAJOR), mode(0)), MAJOR)
        self.assertEqual(scale_after(read(MAJOR), mode(1)), "10/9 32/27 4/3 40/27 5/3 16/9 2")
        self.assertEqual(scale_after(read(MAJOR), mode(6)), "16/15 6/5 4/3 64/45 8/5 16/9 2")
        self.assertEqual(ask(read(MAJOR), mode(3))[1], [0])

    def test_each_mode(self):
        for text in (MAJOR, PENTATONIC):
            notes = notes_of(text)
            for k in range(len(notes)):
                self.assertEqual(scale_after(read(text), mode(k)), text_of(told_mode(notes, k)))

    def test_out_of_the_range(self):
        for k in (-1, -7, 7, 8, 14, 1000, HUGE, -HUGE):
            self.assertEqual(ask(read(MAJOR), mode(k), write())[1:], [[-1]] + ask(read(MAJOR), write())[1:])

    def test_one_note(self):
        told = ask(read("3/2"), mode(0), mode(1), mode(-1), write())
        self.assertEqual(told, [[1], [0], [-1], [-1], [3, 51, 47, 50]])

    def test_not_sound(self):
        # the fourth degree of the Pythagorean scale has 729/512, and so has no other
        self.assertEqual(ask(read(PYTHAGOREAN), *[mode(3)] * 2)[1:], [[-4], [-4]])
        self.assertEqual(scale_after(read(PYTHAGOREAN), mode(3)), PYTHAGOREAN)
        # 2^8 less 2^-8 3^8 has 2^16
        notes = [[-8, 8, 0, 0, 0, 0], [8, 0, 0, 0, 0, 0]]
        told = with_scale(notes, mode(1), write(), mode(0), write())
        plain = with_scale(notes, write())[0]
        self.assertEqual(told, [[-4], plain, [0], plain])
        for text in (MAJOR, PYTHAGOREAN, "2/1 55/2 30", "9/5 11/4 3 7"):
            notes = notes_of(text)
            for k in range(len(notes)):
                sound = all(max(map(abs, row)) <= 8 for row in told_mode(notes, k))
                self.assertEqual(with_scale(notes, mode(k)), [[0] if sound else [-4]])

    def test_exponents_8_and_9(self):
        # less 2^-4: 8 stays sound and 9 doesn't
        self.assertEqual(with_scale([[-3, 0, 0, 0, 1, 0], [5, 0, 0, 0, 0, 0]], mode(1)), [[0]])
        self.assertEqual(with_scale([[-3, 0, 0, 0, 1, 0], [6, 0, 0, 0, 0, 0]], mode(1)), [[-4]])

    def test_modes_of_a_mode(self):
        count = 7
        modes = [scale_after(read(MAJOR), mode(k)) for k in range(count)]
        for first in range(count):
            for second in range(count):
                self.assertEqual(scale_after(read(MAJOR), mode(first), mode(second)), modes[(first + second) % count])
            self.assertEqual(sorted(scale_after(read(modes[first]), mode(k)) for k in range(count)), sorted(modes))

    def test_leads_back(self):
        for text in (MAJOR, PENTATONIC, "5/4", "6/5 3/2", "7/6 5/4 4/3 3/2 7/4 2", "13/11 13/7 26"):
            count = len(text.split())
            told = ask(read(text), *[mode(1 % count)] * count, write())
            self.assertEqual(told[1:-1], [[0]] * count)
            self.assertEqual(told[-1], ask(read(text), write())[1])

    def test_any_scale(self):
        source = random.Random(16)
        sounds = 0
        for turn in range(60):
            notes = some_scale(source, most=8, width=source.choice((1, 2, 4, 5)))
            count = len(notes)
            k = source.randint(0, count - 1)
            rows = told_mode(notes, k)
            if all(max(map(abs, row)) <= 8 for row in rows):
                sounds += 1
                told = with_scale(notes, mode(k), write(), mode((count - k) % count), write())
                self.assertEqual(told[0], [0])
                self.assertEqual(told[1], with_scale(rows, write())[0])
                self.assertEqual(told[2:], [[0], with_scale(notes, write())[0]])
            else:
                self.assertEqual(with_scale(notes, mode(k), write()), [[-4], with_scale(notes, write())[0]])
        self.assertGreater(sounds, 15)
        self.assertLess(sounds, 55)


def told_steps(notes):
    wholes = [Fraction(1)] + [fraction(note) for note in notes]
    return [high / low for low, high in zip(wholes, wholes[1:])]


def told_shape(notes):
    steps = told_steps(notes)
    different = sorted(set(steps))
    return [len(different)] + [different.index(step) for step in steps]


def told_kind(notes):
    """The kind by the words of the document, one interval beside another."""
    count = len(notes)
    wholes = [fraction(told_degree(notes, k)) for k in range(2 * count + 1)]
    spans = {g: [wholes[i + g] / wholes[i] for i in range(count)] for g in range(1, count + 1)}
    steps = spans[1]
    below = range(1, count)
    total = 0
    if all(len(set(spans[g])) <= 2 for g in below):
        total += 1
    if not any(x > y for g in below for x in spans[g] for y in spans[g + 1]):
        total += 2
    if all(x < y for g in below for x in spans[g] for y in spans[g + 1]):
        total += 4
    if not any(x == y for g in spans for h in spans if g != h for x in spans[g] for y in spans[h]):
        total += 8
    if any(all(steps[(i + r) % count] == steps[i] for i in range(count)) for r in below):
        total += 16
    return total


class ShapeTest(unittest.TestCase):
    def test_ordinary(self):
        self.assertEqual(ask(read(MAJOR), shape())[1], [3, 2, 1, 0, 2, 1, 2, 0])
        self.assertEqual(ask(read(PYTHAGOREAN), shape())[1], [2, 1, 1, 0, 1, 1, 1, 0])

    def test_one_note(self):
        for text in ("2", "5/4", "30030"):
            self.assertEqual(ask(read(text), shape())[1], [1, 0])

    def test_equal_steps(self):
        self.assertEqual(ask(read("2 4 8 16"), shape())[1], [1, 0, 0, 0, 0])
        self.assertEqual(ask(read("9/8 81/64"), shape())[1], [1, 0, 0])

    def test_all_different(self):
        self.assertEqual(ask(read("3/2 5/3 2"), shape())[1], [3, 2, 0, 1])

    def test_steps_of_the_mode(self):
        told = ask(read(MAJOR), mode(2), shape())
        self.assertEqual(told[2], [3, 0, 2, 1, 2, 0, 2, 1])

    def test_very_close_steps(self):
        # 4375/4374 lies between the two
        for steps in (["4375/3888", "9/8"], ["9/8", "4375/3888"], ["3/2", "10000/6561", "3/2"]):
            notes = scale_of_steps([Fraction(step) for step in steps])
            self.assertEqual(with_scale(notes, shape()), [told_shape(notes)])

    def test_steps_that_are_not_sound(self):
        notes = [[-8, 8, 0, 0, 0, 0], [8, 0, 0, 0, 0, 0], [8] * 6]
        self.assertEqual(with_scale(notes, shape()), [told_shape(notes)])

    def test_any_scale(self):
        source = random.Random(17)
        for turn in range(60):
            notes = some_scale(source, width=source.choice((1, 2, 8)))
            self.assertEqual(with_scale(notes, shape()), [told_shape(notes)])


class KindTest(unittest.TestCase):
    def assert_kind(self, steps, total):
        notes = scale_of_steps([Fraction(step) for step in steps.split()])
        self.assertEqual(with_scale(notes, kind()), [[total]])
        self.assertEqual(told_kind(notes), total)

    def test_one_note(self):
        for text in ("2", "5/4", "3/2"):
            self.assertEqual(ask(read(text), kind())[1], [1 + 2 + 4 + 8])

    def test_two_notes(self):
        self.assert_kind("3/2 4/3", 1 + 2 + 4 + 8)
        self.assert_kind("3/2 3/2", 1 + 2 + 4 + 8 + 16)

    def test_ordinary(self):
        self.assertEqual(ask(read(MAJOR), kind())[1], [2 + 4 + 8])
        self.assertEqual(ask(read(PYTHAGOREAN), kind())[1], [1 + 8])

    def test_equal_steps(self):
        self.assert_kind("2 2 2 2 2", 1 + 2 + 4 + 8 + 16)

    def test_never_higher_but_not_lower(self):
        # 3/2 is a step and a sum of two
        self.assert_kind("9/8 4/3 3/2", 2)
        self.assert_kind("3/2 3/2 9/4", 1 + 2)

    def test_none_in_common_but_higher(self):
        self.assert_kind("9/8 9/8 256/243 9/8 9/8 9/8 256/243", 1 + 8)
        self.assert_kind("9/8 10/9 8", 8)

    def test_one_in_common_and_higher(self):
        self.assert_kind("2 2 4 8", 0)
        self.assert_kind("2 2 8", 1 + 8)

    def test_two_sizes_in_steps_alone(self):
        # two different steps, but three different sums of two
        self.assert_kind("9/8 9/8 10/9 10/9", 2 + 4 + 8)

    def test_comes_again(self):
        self.assert_kind("9/8 4/3 9/8 4/3", 1 + 2 + 4 + 8 + 16)
        self.assert_kind("2 3 5 2 3 5", 2 + 4 + 8 + 16)
        self.assert_kind("9/8 10/9 8 9/8 10/9 8", 8 + 16)
        self.assert_kind("3/2 3/2 5 3/2 3/2 5", 1 + 8 + 16)
        # as many of each, but not in turn
        self.assert_kind("9/8 4/3 4/3 9/8", 8)
        # begins again in the middle, but not to the end
        self.assert_kind("9/8 4/3 9/8 4/3 9/8", 1 + 8)

    def test_each_number_counts_and_does_not(self):
        source = random.Random(18)
        seen = {}
        for turn in range(250):
            count = source.randint(2, 8)
            words = source.choice(("2 3", "9/8 16/15", "2 4 8", "9/8 10/9 16/15", "3/2 9/4", "2 3 6")).split()
            half = [Fraction(source.choice(words)) for at in range(count)]
            steps = half + half if source.randint(0, 2) == 0 and count <= 4 else half
            notes = scale_of_steps(steps)
            if fraction(notes[-1]) < Fraction(5, 4) or any(max(map(abs, note)) > 8 for note in notes):
                continue
            total = told_kind(notes)
            seen[total] = seen.get(total, 0) + 1
            self.assertEqual(with_scale(notes, kind()), [[total]])
        for bit in (1, 2, 4, 8, 16):
            self.assertTrue(any(total & bit for total in seen))
            self.assertTrue(any(not total & bit for total in seen))
        self.assertGreater(len(seen), 6)

    def test_any_scale(self):
        source = random.Random(19)
        for turn in range(25):
            notes = some_scale(source, most=8, width=source.choice((1, 2, 8)))
            self.assertEqual(with_scale(notes, kind()), [[told_kind(notes)]])

    def test_24_notes(self):
        notes = some_scale(random.Random(20), most=24)
        while len(notes) < 20:
            notes = some_scale(random.Random(len(notes)), most=24)
        self.assertEqual(with_scale(notes, kind()), [[told_kind(notes)]])

    def test_asks_only(self):
        told = ask(read(MAJOR), shape(), kind(), near(FIFTH), degree(3), write(), shape(), kind())
        self.assertEqual(told[1:3], told[6:])
        self.assertEqual(told[5], ask(read(MAJOR), write())[1])


if __name__ == "__main__":
    unittest.main()
