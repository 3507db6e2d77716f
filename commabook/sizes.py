"""Sizes of intervals, compared and brought to the nearest without writing a logarithm down."""

from commabook.rows import PRIMES, combined, lower_number, power, row_of, upper_number

LOWER = 0
SAME = 1
HIGHER = 2
# the most parts that an octave is divided into
MOST_STEPS = 100


def order(a, b):
    """How row a's interval lies to row b's: LOWER, SAME or HIGHER."""
    difference = combined(1, a, -1, b)
    upper = upper_number(difference)
    lower = lower_number(difference)
    if upper < lower:
        return LOWER
    if upper == lower:
        return SAME
    return HIGHER


def octaves_reached(upper, lower):
    """The greatest whole number of octaves that isn't higher than upper / lower, both from 1 on."""
    octaves = upper.bit_length() - lower.bit_length()
    # the lengths leave open only whether it's this many or one less
    if octaves >= 0:
        reached = lower * power(2, octaves) <= upper
    else:
        reached = lower <= upper * power(2, -octaves)
    return octaves if reached else octaves - 1


def nearest_steps(n, row):
    """The whole number nearest to n times the row's size."""
    # the number nearest to s is the floor of s + 1/2, so (floor of 2 s, plus 1) // 2:
    # all that's asked of the size is a floor, and whole numbers answer that
    halves = octaves_reached(power(upper_number(row), 2 * n), power(lower_number(row), 2 * n))
    return (halves + 1) // 2


def val(n):
    """The row whose exponent i is the whole number nearest to n times prime i's size."""
    return [nearest_steps(n, row_of(prime, 1)) for prime in PRIMES]
