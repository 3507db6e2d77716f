"""What commas make alike: the sums of rows, each taken a whole number of times."""

from commabook.rows import PRIMES, combined, mapped, zeros
from commabook.sizes import MOST_STEPS, val


def divided_out(first, second, column):
    """Two rows with the same whole sums as these two, the second of them 0 in the column."""
    kept = first
    left = second
    while left[column] != 0:
        times = kept[column] // left[column]
        rest = combined(1, kept, -times, left)
        kept = left
        left = rest
    return (kept, left)


def stairs(commas):
    """Six rows with the same whole sums as the commas: row i is 0 ahead of column i, and zeros if it's 0 in it."""
    rows = [zeros() for prime in PRIMES]
    for comma in commas:
        left = comma
        for column in range(len(PRIMES)):
            pair = divided_out(rows[column], left, column)
            rows[column] = pair[0]
            left = pair[1]
    return rows


def rank(commas):
    """The most commas among these of which none is a sum of fractions of the others."""
    rows = stairs(commas)
    return len([column for column in range(len(PRIMES)) if rows[column][column] != 0])


def common_divisor(first, second):
    """The greatest number that divides both, which aren't 0."""
    kept = abs(first)
    left = abs(second)
    while left != 0:
        rest = kept % left
        kept = left
        left = rest
    return kept


def least_multiple(row, commas):
    """The least whole number from 1 on by which the row becomes a whole sum of the commas; 0 if there's none."""
    times = 1
    left = row
    for column, stair in enumerate(stairs(commas)):
        # only this stair and those behind it can still change the column, and those behind are 0 in it:
        # so every multiple that is a whole sum is a multiple of the one taken here
        if left[column] != 0:
            if stair[column] == 0:
                return 0
            more = abs(stair[column]) // common_divisor(left[column], stair[column])
            times = times * more
            left = combined(more, left, -(more * left[column] // stair[column]), stair)
    return times


def are_alike(a, b, commas):
    """Whether the commas make rows a and b alike."""
    return least_multiple(combined(1, a, -1, b), commas) == 1


def least_division(n, commas):
    """The least k from n on, from 1 to 100, by whose val each comma is mapped to 0; 0 if there's none."""
    for k in range(max(n, 1), MOST_STEPS + 1):
        division = val(k)
        if all([mapped(division, comma) == 0 for comma in commas]):
            return k
    return 0
