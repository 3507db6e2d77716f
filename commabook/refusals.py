"""The numbers of the refusals, and what calls ask of their whole numbers."""

WRONG = -1
HIGH_PRIME = -2
UNSOUND = -4
NO_SCALE = -5
TOO_MANY = -6
FAULT = -8


def all_within(numbers, least, most):
    """Whether each of the numbers is from least to most."""
    return all([least <= number <= most for number in numbers])
