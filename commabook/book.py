"""The interface: a list of calls, and the list of what is answered."""

from commabook.comma_calls import comma_answer
from commabook.reading import cut_apart
from commabook.row_calls import is_row_call, row_answer
from commabook.scale_calls import is_scale_call, scale_answer
from commabook.state import Book


def answer_of_call(book, number, numbers, lists):
    """The numbers that one call answers, made on the book."""
    if is_row_call(number):
        return row_answer(number, numbers, lists)
    if is_scale_call(number):
        return scale_answer(book, number, numbers, lists)
    return comma_answer(book, number, numbers, lists)


def answers(calls):
    """For each call, in order, how many numbers are answered, and these."""
    book = Book()
    told = []
    for number, numbers, lists in cut_apart(calls):
        answer = answer_of_call(book, number, numbers, lists)
        told.append(len(answer))
        told.extend(answer)
    return told
