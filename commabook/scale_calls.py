"""The calls 15 to 21, which read a scale and ask of it.

Each takes the book, its whole numbers and its lists, and gives the numbers that are answered.
"""

from commabook.refusals import FAULT, NO_SCALE, UNSOUND, WRONG, all_within
from commabook.rows import is_sound
from commabook.scales import degree, kind, mode, nearest_degree, shape
from commabook.texts import read_scale, written

READ = 15
LONGEST_TEXT = 2000
LARGEST_BYTE = 255
LARGEST_DEGREE = 1000


def call_read(book, numbers, lists):
    """15 read (text)."""
    text = lists[0]
    if len(text) > LONGEST_TEXT or not all_within(text, 0, LARGEST_BYTE):
        return [WRONG]
    found = read_scale(text)
    if found[1] is not None:
        return [FAULT, found[1]]
    book.take_scale(found[0])
    return [len(book.notes)]


def call_write(book, numbers, lists):
    """16 write ()."""
    text = written(book.notes)
    return [len(text)] + text


def call_degree(book, numbers, lists):
    """17 degree (k)."""
    if not all_within(numbers, -LARGEST_DEGREE, LARGEST_DEGREE):
        return [WRONG]
    row = degree(book.notes, numbers[0])
    if not is_sound(row):
        return [UNSOUND]
    return [0] + row


def call_near(book, numbers, lists):
    """18 near (x)."""
    x = lists[0]
    if not is_sound(x):
        return [WRONG]
    return [0, nearest_degree(book.notes, x)]


def call_mode(book, numbers, lists):
    """19 mode (k)."""
    if not all_within(numbers, 0, len(book.notes) - 1):
        return [WRONG]
    notes = mode(book.notes, numbers[0])
    if not all([is_sound(note) for note in notes]):
        return [UNSOUND]
    book.take_scale(notes)
    return [0]


def call_shape(book, numbers, lists):
    """20 shape ()."""
    return shape(book.notes)


def call_kind(book, numbers, lists):
    """21 kind ()."""
    return [kind(book.notes)]


# those that there must be a scale for
SCALE_CALLS = {
    16: call_write,
    17: call_degree,
    18: call_near,
    19: call_mode,
    20: call_shape,
    21: call_kind,
}


def is_scale_call(number):
    """Whether the call of this number is one of those here."""
    return number == READ or number in SCALE_CALLS


def scale_answer(book, number, numbers, lists):
    """What the call of this number answers, made on the book."""
    if number == READ:
        return call_read(book, numbers, lists)
    if not book.has_scale():
        return [NO_SCALE]
    call = SCALE_CALLS[number]
    return call(book, numbers, lists)
