"""Texts of scales, as lists of bytes: how they are read, where their fault is, and how they are written."""

from commabook.rows import has_high_prime, is_sound, lower_number, row_of, upper_number, zeros
from commabook.sizes import HIGHER, LOWER, order

LINE_FEED = 10
SPACE = 32
SLASH = 47
ZERO = 48
NINE = 57
MOST_DIGITS = 40
MOST_NOTES = 24
LEAST_PERIOD = (-2, 0, 1, 0, 0, 0)


def is_blank(byte):
    """Whether the byte is a space or a line feed."""
    return byte == SPACE or byte == LINE_FEED


def number_end(text, start):
    """The place behind the number that begins at start; start itself if none does."""
    if start < len(text) and text[start] == ZERO:
        return start
    end = start
    while end < len(text) and end < start + MOST_DIGITS and ZERO <= text[end] <= NINE:
        end = end + 1
    return end


def number_of(digits):
    """The number that the digits write."""
    number = 0
    for digit in digits:
        number = 10 * number + digit - ZERO
    return number


def fraction_ends(text, start):
    """Where the upper number of the fraction at start ends, and where the fraction does, if only by a wrong byte."""
    upper_end = number_end(text, start)
    if start < upper_end < len(text) and text[upper_end] == SLASH:
        return (upper_end, number_end(text, upper_end + 1))
    return (upper_end, upper_end)


def is_whole(text, start, upper_end, end):
    """Whether what stands from start to end is a fraction, with a blank or the text's end behind it."""
    # no number before the '/', or none behind it
    if end == start or end == upper_end + 1:
        return False
    return end == len(text) or is_blank(text[end])


def cut_fractions(text):
    """The whole fractions as (place, upper number, lower number) up to the first wrong byte, and this one's place.

    That place is the text's length where the text ends too early, and None where nothing is wrong.
    """
    fractions = []
    place = 0
    while place < len(text):
        if is_blank(text[place]):
            place = place + 1
            continue
        ends = fraction_ends(text, place)
        upper_end = ends[0]
        end = ends[1]
        if not is_whole(text, place, upper_end, end):
            return (fractions, end)
        lower = number_of(text[upper_end + 1:end]) if end > upper_end else 1
        fractions.append((place, number_of(text[place:upper_end]), lower))
        place = end
    return (fractions, None)


def note_behind(before, upper, lower):
    """The row of the fraction, None if it can't be a note behind the row before."""
    if has_high_prime(upper, lower):
        return None
    row = row_of(upper, lower)
    if not is_sound(row) or order(row, before) != HIGHER:
        return None
    return row


def read_scale(text):
    """The notes that the text tells, none if it has a fault; and the fault's place, None if there's no fault."""
    cut = cut_fractions(text)
    notes = []
    before = zeros()
    for place, upper, lower in cut[0]:
        note = note_behind(before, upper, lower)
        # these places are all ahead of the wrong byte, so they are looked at first
        if note is None or len(notes) == MOST_NOTES:
            return ([], place)
        notes.append(note)
        before = note
    if cut[1] is not None:
        return ([], cut[1])
    if len(notes) == 0:
        return ([], len(text))
    if order(before, LEAST_PERIOD) == LOWER:
        last = cut[0][-1]
        return ([], last[0])
    return (notes, None)


def written_fraction(row):
    """The row's fraction in lowest terms, the lower number only where it isn't 1."""
    upper = upper_number(row)
    lower = lower_number(row)
    return f"{upper}" if lower == 1 else f"{upper}/{lower}"


def written(notes):
    """The bytes of the scale's text."""
    return [ord(sign) for sign in " ".join([written_fraction(note) for note in notes])]
