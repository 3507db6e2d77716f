"""Tunings and commas, exactly: commabook.book.answers(calls) answers a list of calls."""
