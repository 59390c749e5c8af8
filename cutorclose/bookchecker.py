"""The checker of books."""

from cutorclose.errors import InvalidPaper
from cutorclose.kinds import book_fault


def lets_book(thing):
    """The rank of a book; InvalidPaper for any other value."""
    fault = book_fault(thing)
    if fault is not None:
        raise InvalidPaper(fault[0], fault[1])
    return len(thing[2])
