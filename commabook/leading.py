"""Leadings: which note of one chord goes to which of another with the least movement."""

from commabook.rows import combined, least_numbers
from commabook.sizes import LOWER, order


def distance(a, b):
    """The row of the interval from the lower of a and b to the higher."""
    if order(a, b) == LOWER:
        return combined(1, b, -1, a)
    return combined(1, a, -1, b)


def widths(a, b):
    """For each note of a a list of its distances to the notes of b, as numbers that are as their fractions are."""
    count = len(b)
    # sizes are added where fractions are multiplied, so a product of as many of these numbers stands for a movement
    numbers = least_numbers([distance(a[place // count], b[place % count]) for place in range(len(a) * count)])
    return [numbers[place:place + count] for place in range(0, len(numbers), count)]


def extended(leadings, row):
    """The leadings, as pairs (places, movement), each with one place more that it doesn't have yet, in order."""
    longer = []
    for places, movement in leadings:
        for place, width in enumerate(row):
            if place not in places:
                longer.append((places + [place], movement * width))
    return longer


def least_leading(a, b):
    """The leading from a's notes to b's with the least movement, of several the first one in order."""
    leadings = [([], 1)]
    for row in widths(a, b):
        leadings = extended(leadings, row)
    # of equal ones min gives the first
    best = min(leadings, key=lambda leading: leading[1])
    return best[0]
