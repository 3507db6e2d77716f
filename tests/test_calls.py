"""How calls are handed in and answered, and that what's refused changes nothing: promise 6."""

import unittest

from commabook.book import answers
from tests.asking import (
    BAD_ROWS, FIFTH, HUGE, SYNTONIC, THIRD, ZEROS,
    alike, arrange, ask, chord, clear, degree, divide, each, joined, kind, lead, map_of, measure, mode, near, of, order,
    rank, ratio, read, read_bytes, round_of, scale_after, shape, steps, sum_of, temper, told_text, val, write,
)
from tests.test_texts import STAIRS

MAJOR = "9/8 5/4 4/3 3/2 5/3 15/8 2"
OCTAVE = [1, 0, 0, 0, 0, 0]

ONE_OF_EACH = [
    of(3, 2), ratio(FIFTH), sum_of(1, 1, FIFTH, THIRD), order(FIFTH, THIRD), steps(12, FIFTH), val(12),
    map_of([12, 19, 28, 34, 42, 44], FIFTH), measure(4, FIFTH), arrange(0, FIFTH + ZEROS), temper(SYNTONIC),
    rank(), alike(SYNTONIC, ZEROS), clear(),
]

# the other calls; the scale is read ahead of those that ask of it
ONE_OF_THE_OTHERS = [
    round_of(FIFTH), divide(12), read("3/2 2"), write(), degree(-1), near(THIRD), mode(1), shape(), kind(),
    chord(ZEROS + THIRD + FIFTH), lead(ZEROS + FIFTH, FIFTH + ZEROS), each(6, 3, ZEROS, OCTAVE, [0, 1]),
]

# one refusal of each call that can be refused, and what it's refused with
REFUSED = [
    (of(0, 1), -1), (of(17, 1), -2), (of(512, 1), -1), (ratio([]), -1), (sum_of(1001, 0, ZEROS, ZEROS), -1),
    (sum_of(9, 0, FIFTH, ZEROS), -4), (order(ZEROS, [0] * 7), -1), (steps(0, FIFTH), -1), (val(101), -1),
    (map_of([0] * 5, ZEROS), -1), (measure(6, FIFTH), -1), (arrange(0, ZEROS * 21), -1),
    (temper([9, 0, 0, 0, 0, 0]), -1), (alike([0] * 5, ZEROS), -1), (round_of([0] * 7), -1), (divide(-1), -1),
    (read_bytes([256]), -1), (chord([]), -1), (lead(ZEROS, ZEROS * 2), -1), (each(501, 63, ZEROS, OCTAVE), -1),
]

# refusals of the calls that ask of a scale, when it has 7 notes
REFUSED_OF_SCALE = [
    (degree(1001), -1), (degree(1000), -4), (near([0] * 5), -1), (mode(7), -1), (mode(-1), -1), (read_bytes([-1]), -1),
    (read_bytes([50] * 2001), -1),
]

# calls with numbers at the ends of what can be handed in, each of them refused with -1
FAR_OUT = [
    [
        of(number, number) if number < 0 else of(number, 1), ratio([number] * 6), sum_of(number, number, ZEROS, ZEROS),
        order([number] * 6, [number] * 6), steps(number, FIFTH), val(number), map_of([number] * 6, [number] * 6),
        measure(number, FIFTH), arrange(number, FIFTH), temper([number] * 6), alike([number] * 6, [number] * 6),
        round_of([number] * 6), read_bytes([number]), degree(number), near([number] * 6), mode(number),
        chord([number] * 6), lead([number] * 6, [number] * 6), each(number, 63, ZEROS, OCTAVE),
        each(500, number, ZEROS, OCTAVE), each(500, 63, [number] * 6, OCTAVE), each(500, 63, ZEROS, [number] * 6),
    ]
    for number in (HUGE, -HUGE)
]


class Watched(list):
    """A list that tells when somebody changes it, if only for a while."""

    def refuse(self, *args, **kwargs):
        raise AssertionError("what was handed in was changed")

    append = clear = extend = insert = pop = remove = reverse = sort = refuse
    __setitem__ = __delitem__ = __iadd__ = __imul__ = refuse


class CountsTest(unittest.TestCase):
    def test_no_calls(self):
        self.assertEqual(answers([]), [])

    def test_each_call_with_its_count(self):
        self.assertEqual(answers([0, 3, 2]), [7, 0, -1, 1, 0, 0, 0, 0])
        self.assertEqual(answers([1, 6, -1, 1, 0, 0, 0, 0]), [2, 3, 2])
        self.assertEqual(answers([2, 2, -1, 6, 1, 1, 1, 1, 1, 1, 6, 3, 2, 1, 0, 0, 0]), [7, 0, -1, 0, 1, 2, 2, 2])
        self.assertEqual(answers([3, 6, 0, 0, 0, 0, 0, 0, 6, 1, 0, 0, 0, 0, 0]), [1, 0])
        self.assertEqual(answers([4, 12, 6, 1, -1, 0, 0, 0, 0]), [2, 0, -7])
        self.assertEqual(answers([5, 12]), [7, 0, 12, 19, 28, 34, 42, 44])
        self.assertEqual(answers([6, 6, 1, 2, 3, 4, 5, 6, 6, -1, 0, 0, 0, 0, 0]), [2, 0, -1])
        self.assertEqual(answers([7, 4, 6, -1, 1, 0, 0, 0, 0]), [1, 4])
        self.assertEqual(answers([8, 0, 12, -1, 1, 0, 0, 0, 0, 0, 0, 0, 0, 0, 0]), [3, 2, 1, 0])
        self.assertEqual(answers([8, 0, 0]), [1, 0])
        self.assertEqual(answers([9, 6, -4, 4, -1, 0, 0, 0]), [1, 1])
        self.assertEqual(answers([10]), [1, 0])
        self.assertEqual(answers([11]), [1, 0])
        self.assertEqual(answers([12, 6, 1, 0, 0, 0, 0, 0, 6, 1, 0, 0, 0, 0, 0]), [1, 1])

    def test_each_other_call_with_its_count(self):
        self.assertEqual(answers([13, 6, 0, 0, 0, 0, 0, 0]), [1, 1])
        self.assertEqual(answers([13, 6, 1, 0, 0, 0, 0, 0]), [1, 0])
        self.assertEqual(answers([14, 12]), [1, 12])
        self.assertEqual(answers([15, 3, 51, 47, 50]), [1, 1])
        self.assertEqual(answers([15, 0]), [2, -8, 0])
        two = [15, 5, 51, 47, 50, 32, 50]
        self.assertEqual(answers(two + [16]), [1, 2, 6, 5, 51, 47, 50, 32, 50])
        self.assertEqual(answers(two + [17, -1]), [1, 2, 7, 0, -2, 1, 0, 0, 0, 0])
        self.assertEqual(answers(two + [18, 6, -2, 0, 0, 0, 0, 0]), [1, 2, 2, 0, -4])
        self.assertEqual(answers(two + [19, 1, 16]), [1, 2, 1, 0, 6, 5, 52, 47, 51, 32, 50])
        self.assertEqual(answers(two + [20]), [1, 2, 3, 2, 1, 0])
        self.assertEqual(answers(two + [21]), [1, 2, 1, 15])
        self.assertEqual(answers([22, 12, -1, 1, 0, 0, 0, 0, 0, 0, 0, 0, 0, 0]), [2, 3, 2])
        self.assertEqual(answers([23, 6, 0, 0, 0, 0, 0, 0, 6, 1, 0, 0, 0, 0, 0]), [1, 0])
        self.assertEqual(
            answers([23, 12, 0, 0, 0, 0, 0, 0, 1, 0, 0, 0, 0, 0, 12, 1, 0, 0, 0, 0, 0, 0, 0, 0, 0, 0, 0]), [2, 1, 0])
        self.assertEqual(
            answers([24, 6, 3, 6, 0, 0, 0, 0, 0, 0, 6, 1, 0, 0, 0, 0, 0, 2, 0, 1]), [6, 1, 2, 1, 1, 2, 1])
        self.assertEqual(answers([24, 0, 0, 6, 0, 0, 0, 0, 0, 0, 6, 0, 0, 0, 0, 0, 0, 0]), [2, 0, 0])

    def test_the_others_one_behind_another(self):
        self.assertEqual(answers(joined(ONE_OF_THE_OTHERS)), [
            1, 0, 1, 12, 1, 2, 6, 5, 51, 47, 50, 32, 50, 7, 0, -2, 1, 0, 0, 0, 0, 2, 0, 1, 1, 0, 3, 2, 0, 1, 1, 15,
            3, 4, 5, 6, 2, 1, 0, 6, 1, 2, 1, 1, 2, 1,
        ])

    def test_one_behind_another(self):
        self.assertEqual(answers([10, 11, 0, 1, 1, 10]), [1, 0, 1, 0, 7, 0, 0, 0, 0, 0, 0, 0, 1, 0])
        self.assertEqual(answers(joined(ONE_OF_EACH)), [
            7, 0, -1, 1, 0, 0, 0, 0, 2, 3, 2, 7, 0, -3, 1, 1, 0, 0, 0, 1, 2, 2, 0, 7, 7, 0, 12, 19, 28, 34, 42, 44,
            2, 0, 7, 1, 4, 3, 2, 1, 0, 1, 1, 1, 1, 1, 1, 1, 0,
        ])

    def test_refusal_is_one_number(self):
        for call, refusal in REFUSED:
            self.assertEqual(answers(call), [1, refusal])
        self.assertEqual(answers(temper(ZEROS) * 7)[-2:], [1, -6])
        for call, refusal in REFUSED_OF_SCALE:
            self.assertEqual(answers(read(MAJOR) + call), [1, 7, 1, refusal])
        for call in (write(), degree(0), near(ZEROS), mode(0), shape(), kind()):
            self.assertEqual(answers(call), [1, -5])

    def test_fault_has_its_place_behind(self):
        self.assertEqual(answers(read("6/5 x") + read("6/5") + read("")), [2, -8, 4, 2, -8, 0, 2, -8, 0])

    def test_whole_numbers_alone(self):
        calls = ONE_OF_EACH + ONE_OF_THE_OTHERS + [call for call, refusal in REFUSED + REFUSED_OF_SCALE] + [read("x")]
        told = answers(joined(calls))
        self.assertIs(type(told), list)
        for number in told:
            self.assertIs(type(number), int)


class RefusedTest(unittest.TestCase):
    def test_changes_nothing(self):
        behind = [rank(), alike(SYNTONIC, ZEROS), alike(FIFTH, ZEROS), temper(FIFTH), rank(), alike(FIFTH, ZEROS)]
        plain = ask(temper(SYNTONIC), *behind)
        self.assertEqual(plain, [[1], [1], [1], [0], [2], [2], [1]])
        for call, refusal in REFUSED:
            self.assertEqual(ask(temper(SYNTONIC), call, *behind), plain[:1] + [[refusal]] + plain[1:])
        calls = [call for call, refusal in REFUSED]
        self.assertEqual(ask(temper(SYNTONIC), *calls, *behind)[1 + len(calls):], plain[1:])

    def test_seventh_comma_changes_nothing(self):
        six = [temper(SYNTONIC)] * 6
        told = ask(*six, temper(FIFTH), rank(), alike(FIFTH, ZEROS), alike(SYNTONIC, ZEROS), temper(FIFTH))
        self.assertEqual(told[6:], [[-6], [1], [0], [1], [-6]])

    def test_lists_that_are_refused_are_passed_over_whole(self):
        # what's in them looks like calls, and is none
        for row in BAD_ROWS + [[10, 11, 10], [9, 6, 0, 0, 0, 0, 0, 0]]:
            told = ask(ratio(row), order(row, FIFTH), order(FIFTH, row), val(12))
            self.assertEqual(told, [[-1], [-1], [-1], [0, 12, 19, 28, 34, 42, 44]])

    def test_refused_leaves_the_scale(self):
        behind = [write(), shape(), kind(), near(FIFTH), degree(8), mode(2), write()]
        plain = ask(read(MAJOR), *behind)
        refused = REFUSED + REFUSED_OF_SCALE
        for call, refusal in refused:
            self.assertEqual(ask(read(MAJOR), call, *behind), plain[:1] + [[refusal]] + plain[1:])
        for text in ("", "x", "6/5", "3/2 2 x", "2 3/2", "3/2 17"):
            told = ask(read(MAJOR), read(text), *behind)
            self.assertEqual(told[1][0], -8)
            self.assertEqual(told[:1] + told[2:], plain)
        calls = [call for call, refusal in refused]
        self.assertEqual(ask(read(MAJOR), *calls, *behind)[1 + len(calls):], plain[1:])

    def test_mode_that_is_not_sound_changes_nothing(self):
        text = "6561/256 256"
        self.assertEqual(scale_after(read(text), mode(1)), text)
        self.assertEqual(ask(read(text), mode(1), shape())[1:], [[-4]] + ask(read(text), shape())[1:])

    def test_refused_changes_no_commas(self):
        behind = [rank(), round_of(SYNTONIC), divide(10)]
        plain = ask(temper(SYNTONIC), *behind)
        for call, refusal in REFUSED:
            self.assertEqual(ask(temper(SYNTONIC), call, *behind)[2:], plain[1:])

    def test_ends_of_what_can_be_handed_in(self):
        for calls in FAR_OUT:
            told = ask(read(MAJOR), *calls, rank(), write())
            self.assertEqual(told[:-1], [[7]] + [[-1]] * len(calls) + [[0]])
            self.assertEqual(told_text(told[-1]), MAJOR)
        self.assertEqual(ask(divide(HUGE), divide(-HUGE)), [[0], [-1]])
        self.assertEqual(ask(each(6, 3, ZEROS, OCTAVE, [HUGE, -HUGE])), [[0, 3, 1, 1, 2, 1, 3, 2]])

    def test_longest_list(self):
        for call in (ratio([0] * 10000), temper([0] * 10000), arrange(0, [0] * 10000), steps(12, [0] * 10000)):
            self.assertEqual(ask(call, rank()), [[-1], [0]])
        long = [0] * 10000
        calls = [
            round_of(long), read_bytes(long), read_bytes([50] * 10000), near(long), chord(long), lead(long, ZEROS),
            lead(ZEROS, long), each(1, 1, long, ZEROS), each(1, 1, ZEROS, long), each(1, 1, ZEROS, ZEROS, long),
        ]
        for call in calls:
            told = ask(read("3/2 2"), call, write())
            self.assertEqual(told[1:], [[-1], [5, 51, 47, 50, 32, 50]])


class ManyCallsTest(unittest.TestCase):
    def test_400_calls(self):
        calls = [temper(SYNTONIC), alike(SYNTONIC, ZEROS), clear(), rank()] * 100
        self.assertEqual(len(calls), 400)
        self.assertEqual(ask(*calls), [[1], [1], [0], [0]] * 100)

    def test_400_large_calls(self):
        self.assertEqual(ask(*[steps(100, [8, 0, 0, 0, 0, -8])] * 400), ask(steps(100, [8, 0, 0, 0, 0, -8])) * 400)
        self.assertEqual(ask(*[sum_of(1, -1, [8] * 6, [8] * 6)] * 400), [[0] + ZEROS] * 400)

    def test_400_calls_that_reckon_the_most(self):
        stairs = " ".join(str(note) for note in STAIRS)
        narrow = read("5/4")
        row = [8, 7, -8, 7, -7, 5]
        many = [
            divide(0), round_of(row), near([8] * 6), near([-8] * 6), shape(), kind(), write(), mode(0), degree(1000),
            each(500, 63, [-8] * 6, [8] * 6, [2, 3, 2, 3]), lead(row * 2, [-8] * 6 + row),
        ]
        calls = [temper(row), temper(row[::-1]), read(stairs)] + many * 18 + [narrow] + many * 18
        self.assertEqual(len(calls), 400)
        self.assertLessEqual(len(joined(calls)), 17000)
        told = ask(*calls)
        first = ask(*calls[:3 + len(many)])
        second = ask(*calls[:3], narrow, *many)
        self.assertEqual(told, first[:3] + first[3:] * 18 + second[3:4] + second[4:] * 18)

    def test_400_of_one_call(self):
        stairs = read(" ".join(str(note) for note in STAIRS))
        narrow = read("5/4")
        comma = temper([8, 7, -8, 7, -7, 5])
        several = [
            (stairs, kind(), 399), (stairs, shape(), 399), (stairs, write(), 399), (narrow, near([8] * 6), 399),
            (stairs, near([-8] * 6), 399), (comma, divide(0), 399), (comma, round_of([8] * 6), 399),
            (comma, each(500, 63, [-8] * 6, [8] * 6), 399),
            (comma, lead([1, 2, 3, 4, 5, 6] * 5, [6, 5, 4, 3, 2, 1] * 5), 250),
        ]
        for first, call, times in several:
            told = ask(first, *[call] * times)
            self.assertEqual(told[1:], ask(first, call)[1:] * times)

    def test_17000_numbers(self):
        # 135 of the longest arrangements are 16605 numbers
        calls = [arrange(0, ZEROS * 20)] * 135
        self.assertEqual(ask(*calls), [[20] + list(range(20))] * 135)


class MixedTest(unittest.TestCase):
    def test_commas_stay_when_a_scale_is_read(self):
        told = ask(temper(SYNTONIC), read(MAJOR), rank(), alike(SYNTONIC, ZEROS), round_of(SYNTONIC), temper(FIFTH))
        self.assertEqual(told, [[1], [7], [1], [1], [1], [2]])
        self.assertEqual(ask(temper(SYNTONIC), read("x"), rank()), [[1], [-8, 0], [1]])
        self.assertEqual(ask(temper(SYNTONIC), read(MAJOR), mode(2), divide(8)), [[1], [7], [0], [12]])

    def test_scale_stays_when_commas_change(self):
        told = ask(read(MAJOR), temper(SYNTONIC), clear(), shape(), degree(4), kind())
        self.assertEqual(told[3:], [[3, 2, 1, 0, 2, 1, 2, 0], [0] + FIFTH, [14]])
        self.assertEqual(scale_after(read(MAJOR), temper(SYNTONIC)), MAJOR)
        self.assertEqual(scale_after(read(MAJOR), temper(SYNTONIC), clear()), MAJOR)
        self.assertEqual(scale_after(clear(), read(MAJOR), clear()), MAJOR)

    def test_commas_change_no_size(self):
        # a scale's notes are what they are, whatever is alike
        calls = [read(MAJOR), near([-6, 4, 0, 0, 0, 0]), shape(), kind(), order([-6, 4, 0, 0, 0, 0], THIRD)]
        self.assertEqual(ask(temper(SYNTONIC), *calls)[1:], ask(*calls))

    def test_all_mixed(self):
        told = ask(
            read("3/2 2"), of(81, 80), temper(SYNTONIC), near(THIRD), mode(1), write(), rank(), mode(2), near(THIRD),
            read("6/5"), round_of(SYNTONIC), kind(), clear(), round_of(SYNTONIC), degree(1), read("2"), degree(1),
            degree(2), write(), mode(0), shape(), divide(3), chord(ZEROS + FIFTH), rank(),
        )
        self.assertEqual(told, [
            [2], [0] + SYNTONIC, [1], [0, 1], [0], [5, 52, 47, 51, 32, 50], [1], [-1], [0, 1],
            [-8, 0], [1], [15], [0], [0], [0, 2, -1, 0, 0, 0, 0], [1], [0] + OCTAVE,
            [0, 2, 0, 0, 0, 0, 0], [1, 50], [0], [1, 0], [3], [2, 3], [0],
        ])

    def test_calls_without_a_book_change_nothing(self):
        plain = [read(MAJOR), temper(SYNTONIC), write(), rank()]
        between = [chord(ZEROS + FIFTH), lead(ZEROS, FIFTH), each(100, 63, ZEROS, OCTAVE, [3, 2, 1])]
        between += [divide(5), round_of(FIFTH)]
        told = ask(*plain[:2], *between, *plain[2:])
        self.assertEqual(told[:2] + told[-2:], ask(*plain))


class KeepsNothingTest(unittest.TestCase):
    def test_handed_in_stays(self):
        calls = ONE_OF_EACH + ONE_OF_THE_OTHERS + [call for call, refusal in REFUSED + REFUSED_OF_SCALE]
        calls = joined(calls + FAR_OUT[0]) + read("x") + temper(FIFTH) * 7
        before = list(calls)
        told = answers(calls)
        self.assertEqual(calls, before)
        self.assertEqual(answers(Watched(calls)), told)

    def test_answer_is_a_list_of_its_own(self):
        calls = []
        told = answers(calls)
        told.append(5)
        self.assertEqual(calls, [])
        self.assertEqual(answers([]), [])
        calls = val(12)
        told = answers(calls)
        told[2] = 99
        self.assertEqual(answers(calls), [7, 0, 12, 19, 28, 34, 42, 44])

    def test_as_if_for_the_first_time(self):
        self.assertEqual(ask(*[temper(SYNTONIC)] * 6)[-1], [6])
        self.assertEqual(ask(rank(), alike(SYNTONIC, ZEROS), temper(SYNTONIC)), [[0], [0], [1]])
        self.assertEqual(ask(read(MAJOR))[-1], [7])
        self.assertEqual(ask(write(), degree(0), near(ZEROS), mode(0), shape(), kind()), [[-5]] * 6)
        every = joined(ONE_OF_EACH[:-1] + ONE_OF_THE_OTHERS)
        self.assertEqual(answers(every), answers(every))


if __name__ == "__main__":
    unittest.main()
