"""Rows of exponents, the fractions they stand for, and their measures."""

PRIMES = (2, 3, 5, 7, 11, 13)
LARGEST_EXPONENT = 8
MEASURES = 6


def power(base, exponent):
    """base to the exponent, a whole number from 0 on."""
    product = 1
    square = base
    left = exponent
    while left > 0:
        if left % 2 == 1:
            product = product * square
        left = left // 2
        # the last square would be the largest number of all, and nobody asks for it
        if left > 0:
            square = square * square
    return product


def is_sound(row):
    """Whether the row has six exponents, each from -8 to 8."""
    if len(row) != len(PRIMES):
        return False
    return all([-LARGEST_EXPONENT <= exponent <= LARGEST_EXPONENT for exponent in row])


def rows_within(numbers):
    """The rows that stand one behind another in the list; the last is short if its length is no multiple of six."""
    return [numbers[place:place + len(PRIMES)] for place in range(0, len(numbers), len(PRIMES))]


def zeros():
    """The row of 1/1."""
    return [0 for prime in PRIMES]


def combined(m, a, n, b):
    """m times row a and n times row b, added exponent by exponent."""
    return [m * x + n * y for x, y in zip(a, b)]


def mapped(v, x):
    """What row x is mapped to by row v."""
    return sum([p * q for p, q in zip(v, x)])


def upper_number(row):
    """The upper number of the row's fraction in lowest terms."""
    product = 1
    for prime, exponent in zip(PRIMES, row):
        if exponent > 0:
            product = product * power(prime, exponent)
    return product


def lower_number(row):
    """The lower number of the row's fraction in lowest terms."""
    return upper_number([-exponent for exponent in row])


def least_numbers(rows):
    """The whole numbers without a common divisor that are to one another as the rows' fractions are."""
    lowest = [min([row[place] for row in rows]) for place in range(len(PRIMES))]
    return [upper_number(combined(1, row, -1, lowest)) for row in rows]


def times_within(prime, number):
    """How many times the prime divides the number, from 1 on."""
    times = 0
    left = number
    while left % prime == 0:
        left = left // prime
        times = times + 1
    return times


def without_primes(number):
    """What is left of the number, from 1 on, when the six primes are divided out."""
    left = number
    for prime in PRIMES:
        left = left // power(prime, times_within(prime, left))
    return left


def has_high_prime(n, d):
    """Whether n / d has in lowest terms a prime above 13."""
    # what is left has primes above 13 alone: they all cancel just where both are equal
    return without_primes(n) != without_primes(d)


def row_of(n, d):
    """The row of n / d, which has no prime above 13 in lowest terms; it may be unsound."""
    return [times_within(prime, n) - times_within(prime, d) for prime in PRIMES]


def odd_limit(row):
    """The greatest odd number that divides the upper or the lower number."""
    odd = [0] + row[1:]
    return max(upper_number(odd), lower_number(odd))


def greatest_prime(row):
    """The greatest prime of the row's fraction, 1 if there's none."""
    return max([prime for prime, exponent in zip(PRIMES, row) if exponent != 0], default=1)


def gradus(row):
    """1 more than the sum of the exponents' sizes, each times its prime less 1."""
    return 1 + sum([abs(exponent) * (prime - 1) for prime, exponent in zip(PRIMES, row)])


def measure(k, row):
    """The row's measure of number k, 0 to 5."""
    if k == 0:
        return upper_number(row) * lower_number(row)
    if k == 1:
        return max(upper_number(row), lower_number(row))
    if k == 2:
        return odd_limit(row)
    if k == 3:
        return greatest_prime(row)
    if k == 4:
        return gradus(row)
    return sum([abs(exponent) for exponent in row])


def arranged(k, rows):
    """The rows' places in rising order of measure k, equal ones as they stand."""
    measures = [measure(k, row) for row in rows]
    return sorted(range(len(rows)), key=lambda place: measures[place])
