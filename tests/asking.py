"""How the tests put calls into one list and take the answers out of one list."""

from fractions import Fraction

from commabook.book import answers

PRIMES = (2, 3, 5, 7, 11, 13)
HUGE = 10 ** 18
ZEROS = [0, 0, 0, 0, 0, 0]
FIFTH = [-1, 1, 0, 0, 0, 0]
THIRD = [-2, 0, 1, 0, 0, 0]
SYNTONIC = [-4, 4, -1, 0, 0, 0]

# lists that are no sound rows
BAD_ROWS = [
    [],
    [0],
    [0] * 5,
    [0] * 7,
    [0] * 12,
    [0] * 10000,
    [9, 0, 0, 0, 0, 0],
    [-9, 0, 0, 0, 0, 0],
    [0, 0, 0, 0, 0, 9],
    [0, 0, 0, 0, 0, -9],
    [0, 0, HUGE, 0, 0, 0],
    [0, 0, 0, -HUGE, 0, 0],
]


def listed(numbers):
    """A list as it's handed in: how many numbers it has, and these."""
    return [len(numbers)] + list(numbers)


def of(n, d):
    return [0, n, d]


def ratio(x):
    return [1] + listed(x)


def sum_of(m, n, a, b):
    return [2, m, n] + listed(a) + listed(b)


def order(a, b):
    return [3] + listed(a) + listed(b)


def steps(n, x):
    return [4, n] + listed(x)


def val(n):
    return [5, n]


def map_of(v, x):
    return [6] + listed(v) + listed(x)


def measure(k, x):
    return [7, k] + listed(x)


def arrange(k, rows):
    """rows: one list with six numbers for each."""
    return [8, k] + listed(rows)


def temper(c):
    return [9] + listed(c)


def clear():
    return [10]


def rank():
    return [11]


def alike(a, b):
    return [12] + listed(a) + listed(b)


def joined(rows):
    """The rows one behind another in one list."""
    return [number for row in rows for number in row]


def apart(told):
    """The answers, each a list of its own; fails where the counts don't fit the list."""
    cut = []
    place = 0
    while place < len(told):
        end = place + 1 + told[place]
        if told[place] < 1 or end > len(told):
            raise AssertionError(f"the count at {place} doesn't fit: {told}")
        cut.append(told[place + 1:end])
        place = end
    return cut


def ask(*calls):
    """What each of the calls answers, made one behind another on one object."""
    cut = apart(answers(joined(calls)))
    if len(cut) != len(calls):
        raise AssertionError(f"{len(calls)} calls, but {len(cut)} answers")
    return cut


def ask_one(call):
    """What the call answers, made on a new object."""
    return ask(call)[0]


def fraction(row):
    """The row's fraction, reckoned otherwise than in the program."""
    product = Fraction(1)
    for prime, exponent in zip(PRIMES, row):
        product *= Fraction(prime) ** exponent
    return product
