"""Plain reckoning for the tests: books as sets of words, all by the words of the definitions."""

import itertools

from tests.support import lots_of


def words(book):
    """The set of all sums of multiples of the rows."""
    prime, size, rows = book
    found = set()
    for digits in itertools.product(range(prime), repeat=len(rows)):
        found.add(tuple(sum(d * row[k] for d, row in zip(digits, rows)) % prime for k in range(size)))
    return found


def lead(word):
    return next(k for k, digit in enumerate(word) if digit)


def book(prime, size, found):
    """The book that has just these words, in settled form."""
    leads = sorted({lead(word) for word in found if any(word)})
    rows = [[w for w in found if all(w[k] == int(k == at) for k in leads)] for at in leads]
    assert all(len(row) == 1 for row in rows)
    return (prime, size, tuple(row[0] for row in rows))


def cut_to(word, lot):
    return tuple(word[place] for place in lot)


def others(size, lot):
    return tuple(place for place in range(size) if place not in lot)


def rank(a_book, lot):
    """How often the prime divides the number of words cut to the lot."""
    many, prime = len({cut_to(word, lot) for word in words(a_book)}), a_book[0]
    found = 0
    while many > 1:
        assert many % prime == 0
        many, found = many // prime, found + 1
    return found


def free(a_book, lot):
    return rank(a_book, lot) == len(lot)


def checks(a_book):
    prime, size, _ = a_book
    own = words(a_book)
    found = {word for word in itertools.product(range(prime), repeat=size)
             if all(sum(a * b for a, b in zip(word, other)) % prime == 0 for other in own)}
    return book(prime, size, found)


def cut(a_book, lot):
    prime, size, _ = a_book
    kept = others(size, lot)
    return book(prime, len(kept), {cut_to(word, kept) for word in words(a_book)})


def closed(a_book, lot):
    prime, size, _ = a_book
    kept = others(size, lot)
    return book(prime, len(kept), {cut_to(word, kept) for word in words(a_book) if not any(cut_to(word, lot))})


def left(a_book, closed_lot, cut_lot):
    kept = others(a_book[1], closed_lot)
    return cut(closed(a_book, closed_lot), tuple(kept.index(place) for place in cut_lot))


def kind(a_book, place):
    if all(word[place] == 0 for word in words(a_book)):
        return "idle"
    size = a_book[1]
    return "alone" if rank(a_book, others(size, (place,))) < rank(a_book, range(size)) else "ordinary"


def knots(a_book):
    """All lots that are not free, while each lot within is."""
    bound = [lot for lot in lots_of(a_book[1]) if not free(a_book, lot)]
    return tuple(sorted(lot for lot in bound if not any(set(less) < set(lot) for less in bound)))


def of_one_part(a_knots, one, other):
    return one == other or any(one in knot and other in knot for knot in a_knots)


def parts(a_book):
    size, its_knots = a_book[1], knots(a_book)
    lots = {tuple(f for f in range(size) if of_one_part(its_knots, e, f)) for e in range(size)}
    assert sorted(place for lot in lots for place in lot) == list(range(size))
    return tuple(sorted(lots))


def alike(a_book, one, other):
    ordinary = kind(a_book, one) == kind(a_book, other) == "ordinary"
    return ordinary and rank(a_book, tuple(sorted((one, other)))) == 1


def greatest_lots(size, joined):
    """The lots of two places at least, each two of them joined, that lie in no greater such lot."""
    lots = [lot for lot in lots_of(size) if len(lot) > 1 and all(joined(*two) for two in itertools.combinations(lot, 2))]
    return tuple(sorted(lot for lot in lots if not any(set(lot) < set(more) for more in lots)))


def is_pair(a_book):
    return a_book[1] == 2 and len(a_book[2]) == 1 and all(kind(a_book, k) != "idle" for k in range(2))


def is_ring(a_book):
    twos = itertools.combinations(range(3), 2)
    return a_book[1] == 3 and len(a_book[2]) == 2 and all(free(a_book, two) for two in twos)


def is_star(a_book):
    return a_book[1] == 3 and len(a_book[2]) == 1 and all(kind(a_book, k) != "idle" for k in range(3))


def closings(a_book, lot, judge):
    """All lots by which, closed, all else being cut, the lot is left as the judge wants it."""
    rest = others(a_book[1], lot)
    found = []
    for many in range(len(rest) + 1):
        for closed_lot in itertools.combinations(rest, many):
            cut_lot = tuple(place for place in rest if place not in closed_lot)
            if judge(left(a_book, closed_lot, cut_lot)):
                found.append(closed_lot)
    return found
