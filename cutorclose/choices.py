"""Reckoning by trees of choices."""

from cutorclose.choicechecker import tree_fault
from cutorclose.kinds import is_order
from cutorclose.needs import need
from cutorclose.quotients import NOUGHT, ONE, ascending, plus, summed, times
from cutorclose.reckoning import behind, books_at, steps_at
from cutorclose.rulekinds import need_rule


def tree_by(book, order):
    """The tree by which places are chosen by the order."""
    need(is_order(book[1], order), "order")
    if len(order) == 0:
        return ()
    rest = behind(order)
    trees = [tree_by(left, rest) for left in books_at(book, order[0])]
    return (order[0], *trees)


def tree_worth(book, rule, tree):
    """The worth by a tree of the book."""
    need_rule(book, rule)
    need(tree_fault(book, tree, ()) is None, "tree")
    return worth_down(book, rule, tree)


def all_worths(book, rule):
    """A tuple of all different worths by all trees, ascending."""
    need_rule(book, rule)
    if book[1] == 0:
        return (ONE,)
    worths = [worth for place in range(book[1]) for worth in worths_from(steps_at(book, rule, place))]
    return ascending(worths)


def worth_down(book, rule, tree):
    """The worth by the tree; book, rule and tree are taken as such."""
    if tree == ():
        return ONE
    ways = steps_at(book, rule, tree[0])
    return summed([times(way[0], worth_down(way[1], way[2], own)) for way, own in zip(ways, tree[1:])])


def worths_from(ways):
    """A list of what the ways of a place can come to, each with whatever tree of its own."""
    worths = [NOUGHT]
    for number, left, rest in ways:
        its = [times(number, worth) for worth in all_worths(left, rest)]
        worths = [plus(one, other) for one in worths for other in its]
    return worths
