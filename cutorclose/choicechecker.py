"""The checker of trees of choices."""

from cutorclose.errors import InvalidPaper
from cutorclose.kinds import is_below
from cutorclose.lots import kind_at
from cutorclose.reckoning import books_at


def lets_tree(book, thing):
    """How many () a tree of the book has; InvalidPaper for any other value."""
    fault = tree_fault(book, thing, ())
    if fault is not None:
        raise InvalidPaper(fault[0], fault[1])
    return ends_of(thing)


def tree_fault(book, thing, path):
    """The first entry (word, path) of the list that applies to what stands at the path, or None for a tree."""
    word = root_fault(book, thing)
    if word is not None:
        return (word, path)
    if book[1] == 0:
        return None
    for k, left in enumerate(books_at(book, thing[0])):
        fault = tree_fault(left, thing[k + 1], (*path, k))
        if fault is not None:
            return fault
    return None


def root_fault(book, thing):
    """What is wrong with the place that a tree chooses first, as a word, or None."""
    size = book[1]
    if not isinstance(thing, tuple) or (len(thing) == 0) != (size == 0):
        return "shape"
    if size == 0:
        return None
    if not is_below(size, thing[0]):
        return "place"
    many = 3 if kind_at(book, thing[0]) == "ordinary" else 2
    return None if len(thing) == many else "shape"


def ends_of(tree):
    """How many () the tree has."""
    if tree == ():
        return 1
    return sum([ends_of(each) for each in tree[1:]])
