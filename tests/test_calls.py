"""How calls are handed in and answered, and that what's refused changes nothing: promise 6."""

import unittest

from commabook.book import answers
from tests.asking import (
    BAD_ROWS, FIFTH, HUGE, SYNTONIC, THIRD, ZEROS,
    alike, arrange, ask, clear, joined, map_of, measure, of, order, rank, ratio, steps, sum_of, temper, val,
)

ONE_OF_EACH = [
    of(3, 2), ratio(FIFTH), sum_of(1, 1, FIFTH, THIRD), order(FIFTH, THIRD), steps(12, FIFTH), val(12),
    map_of([12, 19, 28, 34, 42, 44], FIFTH), measure(4, FIFTH), arrange(0, FIFTH + ZEROS), temper(SYNTONIC),
    rank(), alike(SYNTONIC, ZEROS), clear(),
]

# one refusal of each call that can be refused, and what it's refused with
REFUSED = [
    (of(0, 1), -1), (of(17, 1), -2), (of(512, 1), -1), (ratio([]), -1), (sum_of(1001, 0, ZEROS, ZEROS), -1),
    (sum_of(9, 0, FIFTH, ZEROS), -4), (order(ZEROS, [0] * 7), -1), (steps(0, FIFTH), -1), (val(101), -1),
    (map_of([0] * 5, ZEROS), -1), (measure(6, FIFTH), -1), (arrange(0, ZEROS * 21), -1),
    (temper([9, 0, 0, 0, 0, 0]), -1), (alike([0] * 5, ZEROS), -1),
]


class Watched(list):
    """A list that tells when somebody changes it, if only for a while."""

    def refuse(self, *args, **kwargs):
        raise AssertionError("what was handed in was changed")

    append = clear = extend = insert = pop = remove = reverse = sort = refuse
    __setitem__ = __delitem__ = __iadd__ = __imul__ = refuse


class CountsTest(unittest.TestCase):
    def test_no_calls(self):
        self.assertEqual(answers([]), [])

    def test_each_call_with_its_count(self):
        self.assertEqual(answers([0, 3, 2]), [7, 0, -1, 1, 0, 0, 0, 0])
        self.assertEqual(answers([1, 6, -1, 1, 0, 0, 0, 0]), [2, 3, 2])
        self.assertEqual(answers([2, 2, -1, 6, 1, 1, 1, 1, 1, 1, 6, 3, 2, 1, 0, 0, 0]), [7, 0, -1, 0, 1, 2, 2, 2])
        self.assertEqual(answers([3, 6, 0, 0, 0, 0, 0, 0, 6, 1, 0, 0, 0, 0, 0]), [1, 0])
        self.assertEqual(answers([4, 12, 6, 1, -1, 0, 0, 0, 0]), [2, 0, -7])
        self.assertEqual(answers([5, 12]), [7, 0, 12, 19, 28, 34, 42, 44])
        self.assertEqual(answers([6, 6, 1, 2, 3, 4, 5, 6, 6, -1, 0, 0, 0, 0, 0]), [2, 0, -1])
        self.assertEqual(answers([7, 4, 6, -1, 1, 0, 0, 0, 0]), [1, 4])
        self.assertEqual(answers([8, 0, 12, -1, 1, 0, 0, 0, 0, 0, 0, 0, 0, 0, 0]), [3, 2, 1, 0])
        self.assertEqual(answers([8, 0, 0]), [1, 0])
        self.assertEqual(answers([9, 6, -4, 4, -1, 0, 0, 0]), [1, 1])
        self.assertEqual(answers([10]), [1, 0])
        self.assertEqual(answers([11]), [1, 0])
        self.assertEqual(answers([12, 6, 1, 0, 0, 0, 0, 0, 6, 1, 0, 0, 0, 0, 0]), [1, 1])

    def test_one_behind_another(self):
        self.assertEqual(answers([10, 11, 0, 1, 1, 10]), [1, 0, 1, 0, 7, 0, 0, 0, 0, 0, 0, 0, 1, 0])
        self.assertEqual(answers(joined(ONE_OF_EACH)), [
            7, 0, -1, 1, 0, 0, 0, 0, 2, 3, 2, 7, 0, -3, 1, 1, 0, 0, 0, 1, 2, 2, 0, 7, 7, 0, 12, 19, 28, 34, 42, 44,
            2, 0, 7, 1, 4, 3, 2, 1, 0, 1, 1, 1, 1, 1, 1, 1, 0,
        ])

    def test_refusal_is_one_number(self):
        for call, refusal in REFUSED:
            self.assertEqual(answers(call), [1, refusal])
        self.assertEqual(answers(temper(ZEROS) * 7)[-2:], [1, -6])

    def test_whole_numbers_alone(self):
        told = answers(joined(ONE_OF_EACH) + joined(call for call, refusal in REFUSED))
        self.assertIs(type(told), list)
        for number in told:
            self.assertIs(type(number), int)


class RefusedTest(unittest.TestCase):
    def test_changes_nothing(self):
        behind = [rank(), alike(SYNTONIC, ZEROS), alike(FIFTH, ZEROS), temper(FIFTH), rank(), alike(FIFTH, ZEROS)]
        plain = ask(temper(SYNTONIC), *behind)
        self.assertEqual(plain, [[1], [1], [1], [0], [2], [2], [1]])
        for call, refusal in REFUSED:
            self.assertEqual(ask(temper(SYNTONIC), call, *behind), plain[:1] + [[refusal]] + plain[1:])
        calls = [call for call, refusal in REFUSED]
        self.assertEqual(ask(temper(SYNTONIC), *calls, *behind)[1 + len(calls):], plain[1:])

    def test_seventh_comma_changes_nothing(self):
        six = [temper(SYNTONIC)] * 6
        told = ask(*six, temper(FIFTH), rank(), alike(FIFTH, ZEROS), alike(SYNTONIC, ZEROS), temper(FIFTH))
        self.assertEqual(told[6:], [[-6], [1], [0], [1], [-6]])

    def test_lists_that_are_refused_are_passed_over_whole(self):
        # what's in them looks like calls, and is none
        for row in BAD_ROWS + [[10, 11, 10], [9, 6, 0, 0, 0, 0, 0, 0]]:
            told = ask(ratio(row), order(row, FIFTH), order(FIFTH, row), val(12))
            self.assertEqual(told, [[-1], [-1], [-1], [0, 12, 19, 28, 34, 42, 44]])

    def test_ends_of_what_can_be_handed_in(self):
        for number in (HUGE, -HUGE):
            row = [number] * 6
            told = ask(
                of(number, number) if number < 0 else of(number, 1), ratio(row), sum_of(number, number, ZEROS, ZEROS),
                order(row, row), steps(number, FIFTH), val(number), map_of(row, row), measure(number, FIFTH),
                arrange(number, FIFTH), temper(row), alike(row, row), rank(),
            )
            self.assertEqual(told, [[-1]] * 11 + [[0]])

    def test_longest_list(self):
        for call in (ratio([0] * 10000), temper([0] * 10000), arrange(0, [0] * 10000), steps(12, [0] * 10000)):
            self.assertEqual(ask(call, rank()), [[-1], [0]])


class ManyCallsTest(unittest.TestCase):
    def test_400_calls(self):
        calls = [temper(SYNTONIC), alike(SYNTONIC, ZEROS), clear(), rank()] * 100
        self.assertEqual(len(calls), 400)
        self.assertEqual(ask(*calls), [[1], [1], [0], [0]] * 100)

    def test_400_large_calls(self):
        self.assertEqual(ask(*[steps(100, [8, 0, 0, 0, 0, -8])] * 400), ask(steps(100, [8, 0, 0, 0, 0, -8])) * 400)
        self.assertEqual(ask(*[sum_of(1, -1, [8] * 6, [8] * 6)] * 400), [[0] + ZEROS] * 400)

    def test_17000_numbers(self):
        # 135 of the longest arrangements are 16605 numbers
        calls = [arrange(0, ZEROS * 20)] * 135
        self.assertEqual(ask(*calls), [[20] + list(range(20))] * 135)


class KeepsNothingTest(unittest.TestCase):
    def test_handed_in_stays(self):
        calls = joined(ONE_OF_EACH) + joined(call for call, refusal in REFUSED) + temper(FIFTH) * 7
        before = list(calls)
        told = answers(calls)
        self.assertEqual(calls, before)
        self.assertEqual(answers(Watched(calls)), told)

    def test_answer_is_a_list_of_its_own(self):
        calls = []
        told = answers(calls)
        told.append(5)
        self.assertEqual(calls, [])
        self.assertEqual(answers([]), [])
        calls = val(12)
        told = answers(calls)
        told[2] = 99
        self.assertEqual(answers(calls), [7, 0, 12, 19, 28, 34, 42, 44])

    def test_as_if_for_the_first_time(self):
        self.assertEqual(ask(*[temper(SYNTONIC)] * 6)[-1], [6])
        self.assertEqual(ask(rank(), alike(SYNTONIC, ZEROS), temper(SYNTONIC)), [[0], [0], [1]])
        every = joined(ONE_OF_EACH)[:-1]
        self.assertEqual(answers(every), answers(every))


if __name__ == "__main__":
    unittest.main()
