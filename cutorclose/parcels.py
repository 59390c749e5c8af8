"""Parcels of lots: each lot stands in just one, by an order."""

from cutorclose.kinds import is_lot, is_order
from cutorclose.lots import kind_at, places_of
from cutorclose.needs import need
from cutorclose.quotients import multiplied, summed
from cutorclose.rulekinds import need_rule
from cutorclose.takes import closed_at, cut_at, together


def parcels_of(book, order):
    """The set of all triples (basis, lone, idle) by the order."""
    need(is_order(book[1], order), "order")
    return tuple(sorted(parcels_along(book, places_of(book), order)))


def parcel_with(book, order, lot):
    """The only triple in whose parcel the lot stands."""
    parcels = parcels_of(book, order)
    need(is_lot(book[1], lot), "lot")
    return [parcel for parcel in parcels if is_in_parcel(parcel, lot)][0]


def parcels_worth(book, order, rule):
    """The sum over all triples of the products of what their places give."""
    parcels = parcels_of(book, order)
    need_rule(book, rule)
    return summed([multiplied(numbers_by(parcel, rule)) for parcel in parcels])


def parcels_along(book, names, order):
    """A list of the triples of what is left, whose places have these names, by what is left of the order."""
    if len(order) == 0:
        return [((), (), ())]
    name, rest = order[0], order[1:]
    place = names.index(name)
    others = (*names[:place], *names[place + 1:])
    taken, spared = closed_at(book, (place,)), cut_at(book, (place,))
    kind = kind_at(book, place)
    if kind == "idle":
        return [(basis, lone, together(idle, (name,))) for basis, lone, idle in parcels_along(spared, others, rest)]
    its = [(together(basis, (name,)), lone, idle) for basis, lone, idle in parcels_along(taken, others, rest)]
    if kind == "alone":
        return [(basis, together(lone, (name,)), idle) for basis, lone, idle in its]
    more = parcels_along(spared, others, rest)
    return [*its, *more]


def least_of(parcel):
    """The least lot of a parcel: the basis without its lone places."""
    basis, lone = parcel[:2]
    return tuple([place for place in basis if place not in lone])


def greatest_of(parcel):
    """The greatest lot of a parcel: the basis with its idle places."""
    return together(parcel[0], parcel[2])


def is_in_parcel(parcel, lot):
    """Whether the lot stands in the parcel."""
    return lies_within(least_of(parcel), lot) and lies_within(lot, greatest_of(parcel))


def lies_within(lot, other):
    """Whether all places of the lot are in the other one."""
    return all([place in other for place in lot])


def numbers_by(parcel, rule):
    """A list of what each place gives to the product of its triple."""
    basis, lone, idle = parcel
    return [number_by(place in basis, place in (*lone, *idle), four) for place, four in enumerate(rule)]


def number_by(is_taken, is_settled, four):
    """What a place gives, being taken or not, and alone or idle at its turn or not."""
    closed, cut, alone, idle = four
    if is_taken:
        return alone if is_settled else closed
    return idle if is_settled else cut
