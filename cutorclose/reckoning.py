"""Reckoning by orders: the ways of a place, and what the whole comes to."""

from cutorclose.kinds import is_below, is_order
from cutorclose.lots import kind_at
from cutorclose.needs import need
from cutorclose.quotients import ONE, ascending, summed, times
from cutorclose.rulekinds import need_rule
from cutorclose.takes import closed_at, cut_at


def worth_by(book, rule, order):
    """The worth by the order."""
    need_rule(book, rule)
    need(is_order(book[1], order), "order")
    return worth_along(book, rule, order)


def steps_at(book, rule, place):
    """A tuple of triples (number, left, rest) for the one or two ways of the place, closed ahead of cut."""
    need_rule(book, rule)
    need(is_below(book[1], place), "place")
    rest = (*rule[:place], *rule[place + 1:])
    numbers = numbers_at(book, rule, place)
    return tuple([(number, left, rest) for number, left in zip(numbers, books_at(book, place))])


def order_worths(book, rule):
    """A tuple of all different worths by all orders, ascending."""
    need_rule(book, rule)
    return ascending([worth_along(book, rule, order) for order in orders_of(book[1])])


def books_at(book, place):
    """A list of the books left by the one or two ways of the place, closed ahead of cut."""
    if kind_at(book, place) == "ordinary":
        return [closed_at(book, (place,)), cut_at(book, (place,))]
    # At an idle or a lone place both are one book.
    return [cut_at(book, (place,))]


def numbers_at(book, rule, place):
    """A list of the numbers of the place's ways, as books_at has their books."""
    closed, cut, alone, idle = rule[place]
    kind = kind_at(book, place)
    if kind == "ordinary":
        return [closed, cut]
    return [alone] if kind == "alone" else [idle]


def worth_along(book, rule, order):
    """The worth by the order; book, rule and order are taken as such."""
    if len(order) == 0:
        return ONE
    rest = behind(order)
    ways = steps_at(book, rule, order[0])
    return summed([times(number, worth_along(left, others, rest)) for number, left, others in ways])


def behind(order):
    """The order of the other places when the first one is gone, counted anew."""
    first = order[0]
    return tuple([place - 1 if place > first else place for place in order[1:]])


def orders_of(many):
    """A list of all orders of so many places, ascending."""
    orders = [()]
    for _ in range(many):
        orders = [(*front, place) for front in orders for place in range(many) if place not in front]
    return orders
