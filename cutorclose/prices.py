"""Bases by the prices of their places."""

from cutorclose.kinds import is_quotient, is_tuple_of
from cutorclose.lots import bases_of
from cutorclose.needs import need
from cutorclose.quotients import ascending, multiplied, summed


def bases_sum(book, prices):
    """The sum, over all bases, of the product of the prices of their places."""
    need_prices(book, prices)
    return summed([multiplied(prices_on(prices, basis)) for basis in bases_of(book)])


def best_bases(book, prices):
    """The set of the bases whose prices come to the greatest sum."""
    need_prices(book, prices)
    bases = bases_of(book)
    sums = [summed(prices_on(prices, basis)) for basis in bases]
    greatest = ascending(sums)[-1]
    return tuple([basis for basis, its in zip(bases, sums) if its == greatest])


def need_prices(book, prices):
    """Refuse what has not a quotient for each place."""
    need(is_tuple_of(book[1], prices) and all([is_quotient(price) for price in prices]), "prices")


def prices_on(prices, lot):
    """A list of the prices of the lot's places."""
    return [prices[place] for place in lot]
