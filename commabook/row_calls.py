"""The calls 0 to 8 and 22 to 24, which ask of rows alone.

Each takes its whole numbers and its lists, and gives the numbers that are answered.
"""

from commabook.leading import least_leading
from commabook.listing import fractions_between, told_fractions
from commabook.refusals import HIGH_PRIME, UNSOUND, WRONG, all_within
from commabook.rows import MEASURES, PRIMES, arranged, combined, has_high_prime, is_sound, lower_number, mapped
from commabook.rows import least_numbers, measure, row_of, rows_within, upper_number
from commabook.sizes import MOST_STEPS, nearest_steps, order, val

LARGEST_NUMBER = 1000000000000000000
MOST_TIMES = 1000
LARGEST_MAPPED = 1000000
MOST_ARRANGED = 20
MOST_IN_CHORD = 8
MOST_LED = 5
LARGEST_PRODUCT = 500
ALL_PRIMES = 63
MOST_ANSWERS = 20


def call_of(numbers, lists):
    """0 of (n, d)."""
    n = numbers[0]
    d = numbers[1]
    if not all_within(numbers, 1, LARGEST_NUMBER):
        return [WRONG]
    if has_high_prime(n, d):
        return [HIGH_PRIME]
    row = row_of(n, d)
    if not is_sound(row):
        return [WRONG]
    return [0] + row


def call_ratio(numbers, lists):
    """1 ratio (x)."""
    x = lists[0]
    if not is_sound(x):
        return [WRONG]
    return [upper_number(x), lower_number(x)]


def call_sum(numbers, lists):
    """2 sum (m, n, a, b)."""
    a = lists[0]
    b = lists[1]
    if not all_within(numbers, -MOST_TIMES, MOST_TIMES) or not is_sound(a) or not is_sound(b):
        return [WRONG]
    row = combined(numbers[0], a, numbers[1], b)
    if not is_sound(row):
        return [UNSOUND]
    return [0] + row


def call_order(numbers, lists):
    """3 order (a, b)."""
    a = lists[0]
    b = lists[1]
    if not is_sound(a) or not is_sound(b):
        return [WRONG]
    return [order(a, b)]


def call_steps(numbers, lists):
    """4 steps (n, x)."""
    x = lists[0]
    if not all_within(numbers, 1, MOST_STEPS) or not is_sound(x):
        return [WRONG]
    return [0, nearest_steps(numbers[0], x)]


def call_val(numbers, lists):
    """5 val (n)."""
    if not all_within(numbers, 1, MOST_STEPS):
        return [WRONG]
    return [0] + val(numbers[0])


def call_map(numbers, lists):
    """6 map (v, x)."""
    v = lists[0]
    x = lists[1]
    if len(v) != len(PRIMES) or len(x) != len(PRIMES):
        return [WRONG]
    if not all_within(v + x, -LARGEST_MAPPED, LARGEST_MAPPED):
        return [WRONG]
    return [0, mapped(v, x)]


def call_measure(numbers, lists):
    """7 measure (k, x)."""
    x = lists[0]
    if not all_within(numbers, 0, MEASURES - 1) or not is_sound(x):
        return [WRONG]
    return [measure(numbers[0], x)]


def are_sound(rows, least, most):
    """Whether there are from least to most rows, each of them sound."""
    return least <= len(rows) <= most and all([is_sound(row) for row in rows])


def call_arrange(numbers, lists):
    """8 arrange (k, rows)."""
    rows = rows_within(lists[0])
    if not all_within(numbers, 0, MEASURES - 1) or not are_sound(rows, 0, MOST_ARRANGED):
        return [WRONG]
    return [len(rows)] + arranged(numbers[0], rows)


def call_chord(numbers, lists):
    """22 chord (rows)."""
    rows = rows_within(lists[0])
    if not are_sound(rows, 1, MOST_IN_CHORD):
        return [WRONG]
    return least_numbers(rows)


def call_lead(numbers, lists):
    """23 lead (a, b)."""
    a = rows_within(lists[0])
    b = rows_within(lists[1])
    if not are_sound(a, 1, MOST_LED) or not are_sound(b, len(a), len(a)):
        return [WRONG]
    return least_leading(a, b)


def call_each(numbers, lists):
    """24 each (most, primes, low, high, answers)."""
    low = lists[0]
    high = lists[1]
    given = lists[2]
    if not 0 <= numbers[0] <= LARGEST_PRODUCT or not 0 <= numbers[1] <= ALL_PRIMES:
        return [WRONG]
    if not is_sound(low) or not is_sound(high) or len(given) > MOST_ANSWERS:
        return [WRONG]
    return told_fractions(fractions_between(numbers[0], numbers[1], low, high), given)


ROW_CALLS = {
    0: call_of,
    1: call_ratio,
    2: call_sum,
    3: call_order,
    4: call_steps,
    5: call_val,
    6: call_map,
    7: call_measure,
    8: call_arrange,
    22: call_chord,
    23: call_lead,
    24: call_each,
}


def is_row_call(number):
    """Whether the call of this number is one of those here."""
    return number in ROW_CALLS


def row_answer(number, numbers, lists):
    """What the call of this number answers."""
    call = ROW_CALLS[number]
    return call(numbers, lists)
