"""Plain reckoning for the tests: books as sets of words, all by the words of the definitions.

Rules are reckoned with as fractions; worths are told as fractions, too.
"""

import functools
import itertools
from fractions import Fraction

from tests.support import lots_of, splits


@functools.cache
def words(book):
    """The set of all sums of multiples of the rows."""
    prime, size, rows = book
    found = set()
    for digits in itertools.product(range(prime), repeat=len(rows)):
        found.add(tuple(sum(d * row[k] for d, row in zip(digits, rows)) % prime for k in range(size)))
    return found


def lead(word):
    return next(k for k, digit in enumerate(word) if digit)


def book(prime, size, found):
    """The book that has just these words, in settled form."""
    leads = sorted({lead(word) for word in found if any(word)})
    rows = [[w for w in found if all(w[k] == int(k == at) for k in leads)] for at in leads]
    assert all(len(row) == 1 for row in rows)
    return (prime, size, tuple(row[0] for row in rows))


def cut_to(word, lot):
    return tuple(word[place] for place in lot)


def others(size, lot):
    return tuple(place for place in range(size) if place not in lot)


def rank(a_book, lot):
    """How often the prime divides the number of words cut to the lot."""
    many, prime = len({cut_to(word, lot) for word in words(a_book)}), a_book[0]
    found = 0
    while many > 1:
        assert many % prime == 0
        many, found = many // prime, found + 1
    return found


def free(a_book, lot):
    return rank(a_book, lot) == len(lot)


@functools.cache
def checks(a_book):
    prime, size, _ = a_book
    own = words(a_book)
    found = {word for word in itertools.product(range(prime), repeat=size)
             if all(sum(a * b for a, b in zip(word, other)) % prime == 0 for other in own)}
    return book(prime, size, found)


@functools.cache
def cut(a_book, lot):
    prime, size, _ = a_book
    kept = others(size, lot)
    return book(prime, len(kept), {cut_to(word, kept) for word in words(a_book)})


@functools.cache
def closed(a_book, lot):
    prime, size, _ = a_book
    kept = others(size, lot)
    return book(prime, len(kept), {cut_to(word, kept) for word in words(a_book) if not any(cut_to(word, lot))})


def left(a_book, closed_lot, cut_lot):
    kept = others(a_book[1], closed_lot)
    return cut(closed(a_book, closed_lot), tuple(kept.index(place) for place in cut_lot))


@functools.cache
def kind(a_book, place):
    if all(word[place] == 0 for word in words(a_book)):
        return "idle"
    size = a_book[1]
    return "alone" if rank(a_book, others(size, (place,))) < rank(a_book, range(size)) else "ordinary"


def knots(a_book):
    """All lots that are not free, while each lot within is."""
    bound = [lot for lot in lots_of(a_book[1]) if not free(a_book, lot)]
    return tuple(sorted(lot for lot in bound if not any(set(less) < set(lot) for less in bound)))


def of_one_part(a_knots, one, other):
    return one == other or any(one in knot and other in knot for knot in a_knots)


def parts(a_book):
    size, its_knots = a_book[1], knots(a_book)
    lots = {tuple(f for f in range(size) if of_one_part(its_knots, e, f)) for e in range(size)}
    assert sorted(place for lot in lots for place in lot) == list(range(size))
    return tuple(sorted(lots))


def alike(a_book, one, other):
    ordinary = kind(a_book, one) == kind(a_book, other) == "ordinary"
    return ordinary and rank(a_book, tuple(sorted((one, other)))) == 1


def greatest_lots(size, joined):
    """The lots of two places at least, each two of them joined, that lie in no greater such lot."""
    lots = [lot for lot in lots_of(size) if len(lot) > 1 and all(joined(*two) for two in itertools.combinations(lot, 2))]
    return tuple(sorted(lot for lot in lots if not any(set(lot) < set(more) for more in lots)))


def is_pair(a_book):
    return a_book[1] == 2 and len(a_book[2]) == 1 and all(kind(a_book, k) != "idle" for k in range(2))


def is_ring(a_book):
    twos = itertools.combinations(range(3), 2)
    return a_book[1] == 3 and len(a_book[2]) == 2 and all(free(a_book, two) for two in twos)


def is_star(a_book):
    return a_book[1] == 3 and len(a_book[2]) == 1 and all(kind(a_book, k) != "idle" for k in range(3))


def closings(a_book, lot, judge):
    """All lots by which, closed, all else being cut, the lot is left as the judge wants it."""
    rest = others(a_book[1], lot)
    found = []
    for many in range(len(rest) + 1):
        for closed_lot in itertools.combinations(rest, many):
            cut_lot = tuple(place for place in rest if place not in closed_lot)
            if judge(left(a_book, closed_lot, cut_lot)):
                found.append(closed_lot)
    return found

def all_left(a_book, rule):
    """All that can be left of a book, each with both lots and its rule."""
    for closed_lot, cut_lot in splits(a_book[1]):
        yield closed_lot, cut_lot, left(a_book, closed_lot, cut_lot), without(rule, closed_lot + cut_lot)


def pair(fraction):
    return (fraction.numerator, fraction.denominator)


def fours(rule):
    """The rule with fractions for quotients."""
    return tuple(tuple(Fraction(*number) for number in four) for four in rule)


def without(rule, lot):
    return tuple(four for place, four in enumerate(rule) if place not in lot)


def ways(a_book, rule, place):
    """The ways of a place: a number, what is left, and its rule."""
    number = {"idle": [(3, cut)], "alone": [(2, closed)], "ordinary": [(0, closed), (1, cut)]}
    for index, take in number[kind(a_book, place)]:
        yield Fraction(*rule[place][index]), take(a_book, (place,)), without(rule, (place,))


def worth_by(a_book, rule, order):
    """The worth by an order, its places told as they are called in the whole book."""
    names = tuple(range(a_book[1]))
    return named_worth(a_book, rule, names, order)


def named_worth(a_book, rule, names, order):
    if not order:
        return Fraction(1)
    place = names.index(order[0])
    rest = without(names, (place,))
    return sum(number * named_worth(a_left, its, rest, order[1:]) for number, a_left, its in ways(a_book, rule, place))


@functools.cache
def tree_worths(a_book, rule):
    """The set of all worths by all trees of choices."""
    if a_book[1] == 0:
        return frozenset([Fraction(1)])
    found = set()
    for place in range(a_book[1]):
        told = [[number * worth for worth in tree_worths(a_left, its)] for number, a_left, its in ways(a_book, rule, place)]
        found |= {sum(each) for each in itertools.product(*told)}
    return frozenset(found)


def fits(a_book, rule):
    """Whether the book and each thing that can be left of it has one worth by all trees."""
    return all(len(tree_worths(a_left, its)) == 1 for _, _, a_left, its in all_left(a_book, rule))


def pair_gap(rule, e, f):
    (x_e, y_e, X_e, Y_e), (x_f, y_f, X_f, Y_f) = fours(rule)[e], fours(rule)[f]
    return x_e * Y_f + y_e * X_f - x_f * Y_e - y_f * X_e


def bracket(rule, e, f):
    (x_e, y_e, _, Y_e), (x_f, y_f, _, Y_f) = fours(rule)[e], fours(rule)[f]
    return x_e * Y_f - x_f * Y_e + y_e * x_f - y_f * x_e


def tie_holds(rule, u, v, lot):
    """Whether X = x + u y and Y = y + v x at all places of the lot, u and v being fractions."""
    return all(X == x + u * y and Y == y + v * x for x, y, X, Y in (fours(rule)[place] for place in lot))


def tie(rule, lot):
    """The pair (u, v) of the tie at all places of the lot, None for each that is free; or no pair but None."""
    its = [fours(rule)[place] for place in lot]
    u = next(((X - x) / y for x, y, X, _ in its if y), None)
    v = next(((Y - y) / x for x, y, _, Y in its if x), None)
    return (u, v) if tie_holds(rule, u or Fraction(0), v or Fraction(0), lot) else None


def tie_sum(a_book, rule, u, v):
    """The sum over all lots, u and v being fractions."""
    whole = rank(a_book, tuple(range(a_book[1])))
    total = Fraction(0)
    for lot in lots_of(a_book[1]):
        term = u ** (whole - rank(a_book, lot)) * v ** (len(lot) - rank(a_book, lot))
        for place, four in enumerate(fours(rule)):
            term *= four[0] if place in lot else four[1]
        total += term
    return total


def noughtless(a_book, rule):
    """Whether none of the four numbers is 0 of any place that is of one part with another place."""
    return all(all(number[0] for number in rule[place]) for part in parts(a_book) if len(part) > 1 for place in part)


def quotient_rule(four_list):
    """The rule of fours told by fractions."""
    return tuple(tuple(pair(Fraction(number)) for number in four) for four in four_list)


def merged(a_book, rule, word, e, f):
    """The book and the rule in which one place stands for two that are alike, or in a row, as the word says."""
    (x_e, y_e, X_e, Y_e), (x_f, y_f, X_f, Y_f) = fours(rule)[e], fours(rule)[f]
    four = {"alike": (x_e * Y_f + y_e * x_f, y_e * y_f, y_e * X_f + x_e * Y_f, Y_e * Y_f),
            "in row": (x_e * x_f, y_e * X_f + x_e * y_f, X_e * X_f, x_e * Y_f + y_e * X_f)}[word]
    least, greatest = sorted((e, f))
    its = [four if place == least else other for place, other in enumerate(fours(rule)) if place != greatest]
    return {"alike": cut, "in row": closed}[word](a_book, (greatest,)), quotient_rule(its)


def in_row(a_book, one, other):
    return alike(checks(a_book), one, other)


@functools.cache
def standing(a_book):
    """All steps that stand in a book, ascending."""
    places = range(a_book[1])
    steps = [("take", place) for place in places if kind(a_book, place) != "ordinary"]
    for e, f in itertools.combinations(places, 2):
        steps += [("alike", e, f)] * alike(a_book, e, f) + [("in row", e, f)] * in_row(a_book, e, f)
    return tuple(sorted(steps))


def behind(a_book, rule, step):
    """The factor, the book and the rule behind a step."""
    if step[0] == "take":
        (way,) = ways(a_book, rule, step[1])
        return way
    return (Fraction(1), *merged(a_book, rule, *step))


@functools.cache
def ends(a_book):
    """All books to which steps lead, whichever are chosen, behind which none stands."""
    if not standing(a_book):
        return frozenset([a_book])
    noughts = ((((0, 1),) * 4),) * a_book[1]
    return frozenset().union(*[ends(behind(a_book, noughts, step)[1]) for step in standing(a_book)])


def rank_kind(a_book):
    """The ranks of all lots, but for the order of the places: alike for books that differ in no more than that."""
    lots = lots_of(a_book[1])
    ranks = {lot: rank(a_book, lot) for lot in lots}
    orders = itertools.permutations(range(a_book[1]))
    return min(tuple(ranks[tuple(sorted(order[place] for place in lot))] for lot in lots) for order in orders)


def given(word_list, letters):
    """The product, over all places, of a where all these words have 0 there, of b where not, letters being fractions."""
    result = Fraction(1)
    for place, (a, b) in enumerate(letters):
        result *= b if any(word[place] for word in word_list) else a
    return result


def tuples_sum(a_book, letters, many):
    """The sum over all tuples of so many words, letters being fractions."""
    return sum(given(told, letters) for told in itertools.product(words(a_book), repeat=many))


def weight_counts(a_book):
    weights = [sum(digit != 0 for digit in word) for word in words(a_book)]
    return tuple(weights.count(k) for k in range(a_book[1] + 1))


def bases(a_book):
    """The lots of as many places as the rank of the book that are free."""
    whole = rank(a_book, range(a_book[1]))
    return tuple(sorted(lot for lot in lots_of(a_book[1]) if len(lot) == whole and free(a_book, lot)))


def lot_chance(odds, lot):
    """The chance that just the places of the lot stay, odds being fractions."""
    chance = Fraction(1)
    for place, each in enumerate(odds):
        chance *= each if place in lot else 1 - each
    return chance


def parcels(a_book, order):
    """The triples (basis, lone, idle) by an order, its places told as they are called in the whole book."""
    found = [((), (), ())]
    for k, place in enumerate(order):
        before, more = order[:k], []
        for taken, lone, idle in found:
            spared = tuple(sorted(set(before) - set(taken)))
            names = others(a_book[1], before)
            its = kind(left(a_book, tuple(sorted(taken)), spared), names.index(place))
            if its == "idle":
                more.append((taken, lone, (*idle, place)))
            if its in ("alone", "ordinary"):
                more.append(((*taken, place), (*lone, place) if its == "alone" else lone, idle))
            if its == "ordinary":
                more.append((taken, lone, idle))
        found = more
    return tuple(sorted(tuple(tuple(sorted(lot)) for lot in triple) for triple in found))


def parcel_lots(triple, size):
    """All lots of the parcel of a triple."""
    basis, lone, idle = map(set, triple)
    return [lot for lot in lots_of(size) if basis - lone <= set(lot) <= basis | idle]
