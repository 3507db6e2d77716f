"""How calls that are handed in one behind another are cut apart."""

# for each call by its number: how many whole numbers it has, and how many lists
FORMS = {
    0: (2, 0),
    1: (0, 1),
    2: (2, 2),
    3: (0, 2),
    4: (1, 1),
    5: (1, 0),
    6: (0, 2),
    7: (1, 1),
    8: (1, 1),
    9: (0, 1),
    10: (0, 0),
    11: (0, 0),
    12: (0, 2),
    13: (0, 1),
    14: (1, 0),
    15: (0, 1),
    16: (0, 0),
    17: (1, 0),
    18: (0, 1),
    19: (1, 0),
    20: (0, 0),
    21: (0, 0),
    22: (0, 1),
    23: (0, 2),
    24: (2, 3),
}


def lists_from(calls, place, count):
    """The count lists that begin at the place, each behind its length."""
    lists = []
    start = place
    while len(lists) < count:
        end = start + 1 + calls[start]
        lists.append(calls[start + 1:end])
        start = end
    return lists


def length_of(lists):
    """How many numbers the lists and their lengths take up."""
    return sum([1 + len(numbers) for numbers in lists])


def cut_apart(calls):
    """For each call its number, its whole numbers and its lists."""
    cut = []
    place = 0
    while place < len(calls):
        form = FORMS[calls[place]]
        behind = place + 1 + form[0]
        lists = lists_from(calls, behind, form[1])
        cut.append((calls[place], calls[place + 1:behind], lists))
        place = behind + length_of(lists)
    return cut
