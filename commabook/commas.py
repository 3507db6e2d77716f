"""What commas make alike: the sums of rows, each taken a whole number of times."""

from commabook.rows import PRIMES, combined, zeros


def divided_out(first, second, column):
    """Two rows with the same whole sums as these two, the second of them 0 in the column."""
    kept = first
    left = second
    while left[column] != 0:
        times = kept[column] // left[column]
        rest = combined(1, kept, -times, left)
        kept = left
        left = rest
    return (kept, left)


def stairs(commas):
    """Six rows with the same whole sums as the commas: row i is 0 ahead of column i, and zeros if it's 0 in it."""
    rows = [zeros() for prime in PRIMES]
    for comma in commas:
        left = comma
        for column in range(len(PRIMES)):
            pair = divided_out(rows[column], left, column)
            rows[column] = pair[0]
            left = pair[1]
    return rows


def rank(commas):
    """The most commas among these of which none is a sum of fractions of the others."""
    rows = stairs(commas)
    return len([column for column in range(len(PRIMES)) if rows[column][column] != 0])


def is_whole_sum(row, commas):
    """Whether the row is a sum of the commas, each taken a whole number of times."""
    left = row
    for column, stair in enumerate(stairs(commas)):
        # only this stair and those behind it can still change the column, and those behind are 0 in it
        if left[column] != 0:
            if stair[column] == 0 or left[column] % stair[column] != 0:
                return False
            left = combined(1, left, -(left[column] // stair[column]), stair)
    return True


def are_alike(a, b, commas):
    """Whether the commas make rows a and b alike."""
    return is_whole_sum(combined(1, a, -1, b), commas)
