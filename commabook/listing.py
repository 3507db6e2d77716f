"""Fractions told one behind another, and what the answers to them change."""

from commabook.rows import PRIMES, lower_number, upper_number

# how it ends
NONE_LEFT = 0
ENDED = 1
# what an answer may ask for
END = 1
ONLY_LOWER = 2
ONLY_HIGHER = 3


def with_prime(pairs, prime, most):
    """The pairs (u v, u) of fractions, and those that the prime's powers make of them, u v at most most."""
    longer = list(pairs)
    for product, upper in pairs:
        factor = prime
        # a power goes into u or into v whole: so the fraction stays in lowest terms, and none comes twice
        while product * factor <= most:
            longer.append((product * factor, upper * factor))
            longer.append((product * factor, upper))
            factor = factor * prime
    return longer


def fractions_up_to(most, primes):
    """The fractions (u, v) of the primes whose bits are 1, u v at most most, in the order of u v and of size."""
    pairs = [(1, 1)] if most >= 1 else []
    for place, prime in enumerate(PRIMES):
        if (primes >> place) % 2 == 1:
            pairs = with_prime(pairs, prime, most)
    # of equal products the lesser u is the lower fraction's
    return [(upper, product // upper) for product, upper in sorted(pairs)]


def is_lower(a, b):
    """Whether the fraction a is lower than b, each as (u, v)."""
    return a[0] * b[1] < b[0] * a[1]


def fractions_between(most, primes, low, high):
    """Those fractions, in order, that aren't lower than row low's and aren't higher than row high's."""
    least = (upper_number(low), lower_number(low))
    largest = (upper_number(high), lower_number(high))
    return [
        fraction for fraction in fractions_up_to(most, primes)
        if not is_lower(fraction, least) and not is_lower(largest, fraction)
    ]


def left_behind(fractions, answer):
    """Those of the fractions behind the first one that are still to be told after this answer to it."""
    first = fractions[0]
    if answer == ONLY_LOWER:
        return [fraction for fraction in fractions[1:] if is_lower(fraction, first)]
    if answer == ONLY_HIGHER:
        return [fraction for fraction in fractions[1:] if is_lower(first, fraction)]
    return fractions[1:]


def telling(end, told):
    """How it ends, how many are told, and of each its upper and its lower number."""
    numbers = [end, len(told)]
    for fraction in told:
        numbers.extend(fraction)
    return numbers


def told_fractions(fractions, given):
    """What is told of the fractions when these answers are given to the first ones."""
    told = []
    left = fractions
    for answer in given:
        if len(left) == 0:
            break
        told.append(left[0])
        if answer == END:
            return telling(ENDED, told)
        left = left_behind(left, answer)
    return telling(NONE_LEFT, told + left)
