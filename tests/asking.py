"""How the tests put calls into one list and take the answers out of one list."""

from fractions import Fraction

from commabook.book import answers

PRIMES = (2, 3, 5, 7, 11, 13)
HUGE = 10 ** 18
ZEROS = [0, 0, 0, 0, 0, 0]
FIFTH = [-1, 1, 0, 0, 0, 0]
THIRD = [-2, 0, 1, 0, 0, 0]
SYNTONIC = [-4, 4, -1, 0, 0, 0]

# lists that are no sound rows
BAD_ROWS = [
    [],
    [0],
    [0] * 5,
    [0] * 7,
    [0] * 12,
    [0] * 10000,
    [9, 0, 0, 0, 0, 0],
    [-9, 0, 0, 0, 0, 0],
    [0, 0, 0, 0, 0, 9],
    [0, 0, 0, 0, 0, -9],
    [0, 0, HUGE, 0, 0, 0],
    [0, 0, 0, -HUGE, 0, 0],
]


def listed(numbers):
    """A list as it's handed in: how many numbers it has, and these."""
    return [len(numbers)] + list(numbers)


def of(n, d):
    return [0, n, d]


def ratio(x):
    return [1] + listed(x)


def sum_of(m, n, a, b):
    return [2, m, n] + listed(a) + listed(b)


def order(a, b):
    return [3] + listed(a) + listed(b)


def steps(n, x):
    return [4, n] + listed(x)


def val(n):
    return [5, n]


def map_of(v, x):
    return [6] + listed(v) + listed(x)


def measure(k, x):
    return [7, k] + listed(x)


def arrange(k, rows):
    """rows: one list with six numbers for each."""
    return [8, k] + listed(rows)


def temper(c):
    return [9] + listed(c)


def clear():
    return [10]


def rank():
    return [11]


def alike(a, b):
    return [12] + listed(a) + listed(b)


def round_of(x):
    return [13] + listed(x)


def divide(n):
    return [14, n]


def read_bytes(numbers):
    return [15] + listed(numbers)


def read(text):
    """text: as Python's own text."""
    return read_bytes([ord(sign) for sign in text])


def write():
    return [16]


def degree(k):
    return [17, k]


def near(x):
    return [18] + listed(x)


def mode(k):
    return [19, k]


def shape():
    return [20]


def kind():
    return [21]


def chord(rows):
    """rows: one list with six numbers for each."""
    return [22] + listed(rows)


def lead(a, b):
    """a, b: one list each, with six numbers for each row."""
    return [23] + listed(a) + listed(b)


def each(most, primes, low, high, given=()):
    return [24, most, primes] + listed(low) + listed(high) + listed(given)


def joined(rows):
    """The rows one behind another in one list."""
    return [number for row in rows for number in row]


def apart(told):
    """The answers, each a list of its own; fails where the counts don't fit the list."""
    cut = []
    place = 0
    while place < len(told):
        end = place + 1 + told[place]
        if told[place] < 1 or end > len(told):
            raise AssertionError(f"the count at {place} doesn't fit: {told}")
        cut.append(told[place + 1:end])
        place = end
    return cut


def ask(*calls):
    """What each of the calls answers, made one behind another on one object."""
    cut = apart(answers(joined(calls)))
    if len(cut) != len(calls):
        raise AssertionError(f"{len(calls)} calls, but {len(cut)} answers")
    return cut


def ask_one(call):
    """What the call answers, made on a new object."""
    return ask(call)[0]


def fraction(row):
    """The row's fraction, reckoned otherwise than in the program."""
    product = Fraction(1)
    for prime, exponent in zip(PRIMES, row):
        product *= Fraction(prime) ** exponent
    return product


def row_of(whole):
    """The row of a fraction that has no prime above 13."""
    row = []
    up = whole.numerator
    down = whole.denominator
    for prime in PRIMES:
        exponent = 0
        while up % prime == 0:
            up //= prime
            exponent += 1
        while down % prime == 0:
            down //= prime
            exponent -= 1
        row.append(exponent)
    if (up, down) != (1, 1):
        raise AssertionError(f"no row: {whole}")
    return row


def text_of(notes):
    """A scale's text, as the document writes it, of rows."""
    return " ".join(str(fraction(note)) for note in notes)


def notes_of(text):
    """The rows of the fractions in a text."""
    return [row_of(Fraction(word)) for word in text.split()]


def told_text(answer):
    """The text that write answered, which has its count ahead."""
    if answer[0] != len(answer) - 1:
        raise AssertionError(f"the count doesn't fit: {answer}")
    return "".join(chr(byte) for byte in answer[1:])


def scale_after(*calls):
    """The text of the scale that is there behind the calls."""
    return told_text(ask(*calls, write())[-1])
