"""Scales, kept as lists of their notes: degrees, modes, and what their steps are like."""

from commabook.rows import combined, least_numbers, zeros
from commabook.sizes import HIGHER, order


def degree(notes, k):
    """Degree k of the scale, for any whole number k; it may be unsound."""
    place = k % len(notes)
    within = zeros() if place == 0 else notes[place - 1]
    return combined(1, within, k // len(notes), notes[-1])


def is_degree_higher(notes, k, x):
    """Whether degree k is higher than row x."""
    return order(degree(notes, k), x) == HIGHER


def degree_reached(notes, x):
    """The greatest k whose degree isn't higher than row x."""
    # degrees rise with k, and far enough on either side they pass every row
    high = 1
    while not is_degree_higher(notes, high, x):
        high = 2 * high
    low = -1
    while is_degree_higher(notes, low, x):
        low = 2 * low
    while high - low > 1:
        middle = (low + high) // 2
        if is_degree_higher(notes, middle, x):
            high = middle
        else:
            low = middle
    return low


def nearest_degree(notes, x):
    """The number of the degree nearest to row x, of two as near the lower one's."""
    k = degree_reached(notes, x)
    # x is nearer to the higher of the two just where twice x is higher than their sum
    doubled = combined(1, x, 1, x)
    both = combined(1, degree(notes, k), 1, degree(notes, k + 1))
    return k + 1 if order(doubled, both) == HIGHER else k


def mode(notes, k):
    """The notes of the scale's mode from degree k; they may be unsound."""
    first = degree(notes, k)
    return [combined(1, degree(notes, k + i), -1, first) for i in range(1, len(notes) + 1)]


def spans(upward, downward, g):
    """The numbers of the intervals degree i + g less degree i."""
    return [upward[i + g] * down for i, down in enumerate(downward)]


def spans_by_width(notes):
    """For each g from 1 to N the intervals degree i + g less degree i, i from 0 to N - 1.

    They're told as whole numbers that are to one another as the intervals' fractions are: sizes lie in their order.
    """
    degrees = [degree(notes, k) for k in range(2 * len(notes))]
    upward = least_numbers(degrees)
    downward = least_numbers([combined(-1, row, 0, row) for row in degrees[:len(notes)]])
    return [spans(upward, downward, g) for g in range(1, len(notes) + 1)]


def shape(notes):
    """How many different sizes the steps have, and for each step which one, numbered from the least, 0."""
    steps = spans_by_width(notes)[0]
    different = sorted(set(steps))
    return [len(different)] + [different.index(step) for step in steps]


def have_two_sizes(by_width):
    """Whether the intervals of each g below N have at most two different sizes."""
    return all([len(set(same)) <= 2 for same in by_width[:-1]])


def never_higher(by_width):
    """Whether no interval of a g is higher than any of g + 1."""
    return all([max(narrow) <= min(wide) for narrow, wide in zip(by_width, by_width[1:])])


def always_lower(by_width):
    """Whether each interval of a g is lower than all of g + 1."""
    return all([max(narrow) < min(wide) for narrow, wide in zip(by_width, by_width[1:])])


def have_none_in_common(by_width):
    """Whether no interval stands under two g."""
    every = []
    for same in by_width:
        every.extend(same)
    return sum([len(set(same)) for same in by_width]) == len(set(every))


def come_again(steps):
    """Whether the steps, begun at another than the first, are the same."""
    return any([steps[r:] + steps[:r] == steps for r in range(1, len(steps))])


def kind(notes):
    """The sum of what holds of the scale: 1, 2, 4, 8, 16."""
    by_width = spans_by_width(notes)
    total = 0
    if have_two_sizes(by_width):
        total = total + 1
    if never_higher(by_width):
        total = total + 2
    if always_lower(by_width):
        total = total + 4
    if have_none_in_common(by_width):
        total = total + 8
    if come_again(by_width[0]):
        total = total + 16
    return total
