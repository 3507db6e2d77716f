"""The calls 9 to 14, which keep commas and ask of them.

Each takes the book, its whole numbers and its lists, and gives the numbers that are answered.
"""

from commabook.commas import are_alike, least_division, least_multiple, rank
from commabook.refusals import TOO_MANY, WRONG
from commabook.rows import is_sound


def call_temper(book, numbers, lists):
    """9 temper (c)."""
    c = lists[0]
    if not is_sound(c):
        return [WRONG]
    if book.is_full():
        return [TOO_MANY]
    book.keep_comma(c)
    return [len(book.commas)]


def call_clear(book, numbers, lists):
    """10 clear ()."""
    book.drop_commas()
    return [0]


def call_rank(book, numbers, lists):
    """11 rank ()."""
    return [rank(book.commas)]


def call_alike(book, numbers, lists):
    """12 alike (a, b)."""
    a = lists[0]
    b = lists[1]
    if not is_sound(a) or not is_sound(b):
        return [WRONG]
    return [1 if are_alike(a, b, book.commas) else 0]


def call_round(book, numbers, lists):
    """13 round (x)."""
    x = lists[0]
    if not is_sound(x):
        return [WRONG]
    return [least_multiple(x, book.commas)]


def call_divide(book, numbers, lists):
    """14 divide (n)."""
    if numbers[0] < 0:
        return [WRONG]
    return [least_division(numbers[0], book.commas)]


COMMA_CALLS = {
    9: call_temper,
    10: call_clear,
    11: call_rank,
    12: call_alike,
    13: call_round,
    14: call_divide,
}


def comma_answer(book, number, numbers, lists):
    """What the call of this number answers, made on the book."""
    call = COMMA_CALLS[number]
    return call(book, numbers, lists)
