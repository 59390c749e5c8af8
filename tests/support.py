"""What the tests share: values, books of small sizes, and checks that look at kinds, too."""

import itertools
import random
import types
import unittest
from fractions import Fraction

RING, STAR = (2, 3, ((1, 0, 1), (0, 1, 1))), (2, 3, ((1, 1, 1),))
BOTH = (2, 6, ((1, 0, 1, 0, 0, 0), (0, 1, 1, 0, 0, 0), (0, 0, 0, 1, 1, 1)))
WIDE = (3, 4, ((1, 0, 1, 1), (0, 1, 1, 2)))
LONE = (2, 4, ((1, 0, 0, 0), (0, 1, 1, 0)))
FOUR = ((1, 1), (1, 1), (3, 1), (2, 1))
ODD = (FOUR, FOUR, ((1, 1), (1, 1), (4, 1), (2, 1)))
GREAT = 10 ** 60 - 1

# Values of which none is a tuple that begins with an integer: no quotient, lot, book or rule.
ODD_VALUES = (None, True, False, -1, 5, GREAT, "", "book", [], [0], [0, 1], [[0], 1], ("a",), ((),), (None,), (True,),
              (-1,), (0, True), ([0],), (1, 0), (0, 0), (GREAT,))


def same(value, wanted):
    """Whether both are equal and of the same kinds throughout, so that True is not 1."""
    if type(value) is not type(wanted):
        return False
    if isinstance(value, (tuple, list)):
        return len(value) == len(wanted) and all(same(a, b) for a, b in zip(value, wanted))
    if isinstance(value, dict):
        return list(value) == list(wanted) and all(same(value[key], wanted[key]) for key in value)
    return value == wanted


def fields_of(error):
    return {name: getattr(error, name) for name in vars(error) if not name.startswith("__")}


def refusal(word):
    """The fields of NotUsable for the parameter of this name."""
    return {"word": word, "at": -1}


class Case(unittest.TestCase):
    """A test case with checks of exact kinds, and of errors with their fields."""

    def exact(self, value, wanted):
        self.assertTrue(same(value, wanted), f"{value!r} is not {wanted!r}")

    def refused(self, kind, fields, call, *args, **named):
        """The call raises just this error with just these fields."""
        with self.assertRaises(kind) as caught:
            result = call(*args, **named)
            if isinstance(result, types.GeneratorType):
                next(result)
        self.assertIs(type(caught.exception), kind)
        self.assertEqual(list(fields_of(caught.exception)), list(fields))
        for name, wanted in fields.items():
            self.exact(getattr(caught.exception, name), wanted)


def lots_of(size):
    """All lots of so many places."""
    return [lot for many in range(size + 1) for lot in itertools.combinations(range(size), many)]


def splits(size):
    """All pairs of lots without a common place."""
    return [(one, other) for one in lots_of(size) for other in lots_of(size) if not set(one) & set(other)]


def books_of(prime, size):
    """All books of this prime and size, straight from what settled form means."""
    for leads in lots_of(size):
        spots = [(k, at) for k, lead in enumerate(leads) for at in range(lead + 1, size) if at not in leads]
        for digits in itertools.product(range(prime), repeat=len(spots)):
            rows = [[int(at == lead) for at in range(size)] for lead in leads]
            for (k, at), digit in zip(spots, digits):
                rows[k][at] = digit
            yield (prime, size, tuple(map(tuple, rows)))


# So many books of each prime that all kinds of places and parts come up, and the tests stay quick.
SIZES = ((2, 4), (3, 3), (5, 2), (7, 2))
SMALL_BOOKS = [book for prime, most in SIZES for size in range(most + 1) for book in books_of(prime, size)]

# With some books of three and four places of the greater primes, for what hangs on rules.
RULE_BOOKS = [*SMALL_BOOKS, *list(books_of(3, 4))[5::12], *list(books_of(5, 3))[2::4], *list(books_of(7, 3))[4::9]]

# Books of up to eight places, of each prime.
GREAT_BOOKS = [
    BOTH, WIDE,
    (2, 7, ((1, 0, 0, 0, 1, 1, 0), (0, 1, 0, 0, 1, 0, 1), (0, 0, 1, 0, 0, 1, 1), (0, 0, 0, 1, 1, 1, 1))),
    (2, 8, ((1, 1, 0, 0, 0, 0, 0, 1), (0, 0, 1, 0, 1, 0, 0, 0), (0, 0, 0, 1, 1, 0, 0, 0), (0, 0, 0, 0, 0, 0, 1, 0))),
    (3, 6, ((1, 0, 2, 0, 1, 0), (0, 1, 1, 0, 0, 0), (0, 0, 0, 1, 2, 0))),
    (5, 5, ((1, 0, 1, 1, 1), (0, 1, 1, 2, 4))),
    (7, 5, ((1, 0, 0, 3, 0), (0, 1, 0, 6, 0), (0, 0, 1, 0, 5))),
]

# Numbers for rules, so few that gaps come to nought by chance, too.
NUMBERS = [Fraction(0), Fraction(0), Fraction(1), Fraction(1), Fraction(-1), Fraction(2), Fraction(1, 2), Fraction(-3, 2)]


def quotient(fraction):
    return (fraction.numerator, fraction.denominator)


def quotients(fractions):
    return tuple(quotient(each) for each in fractions)


def four_by(x, y, u, v, slack=1):
    """The four of a place at which the tie (u, v) holds; with a slack other than 1 pair gaps alone are nought."""
    return quotients((x, y, slack * x + u * y, slack * y + v * x))


def any_four(dice):
    return quotients(dice.choice(NUMBERS) for _ in range(4))


def tied_fours(dice, size, numbers, slack=1):
    """Fours for which one tie holds."""
    u, v = dice.choice(numbers), dice.choice(numbers)
    return [four_by(dice.choice(numbers), dice.choice(numbers), u, v, slack) for _ in range(size)]


def changed(dice, fours):
    """The fours with another number somewhere."""
    place, index = dice.randrange(len(fours)), dice.randrange(4)
    four = list(fours[place])
    four[index] = quotient(dice.choice(NUMBERS))
    return [*fours[:place], tuple(four), *fours[place + 1:]]


def rules_of(size, many, salt=0):
    """Rules of a size, the same ones each time: tied and not, alike everywhere, with noughts and without."""
    dice = random.Random(f"{size} {many} {salt}")
    rules = []
    for _ in range(many):
        fours = [[any_four(dice) for _ in range(size)], tied_fours(dice, size, NUMBERS), tied_fours(dice, size, NUMBERS[2:]),
                 tied_fours(dice, size, NUMBERS, dice.choice(NUMBERS)), [any_four(dice)] * size,
                 [dice.choice([FOUR, any_four(dice)]) for _ in range(size)]]
        if size > 0:
            fours.extend(changed(dice, each) for each in (fours[2], fours[4], [FOUR] * size))
        rules.extend(tuple(each) for each in fours)
    return rules


# What is no rule, of whatever size.
NO_RULES = (None, True, 3, "rule", [], list(ODD), (FOUR, FOUR, None), (FOUR, FOUR, FOUR[:3]), (FOUR, FOUR, list(FOUR)),
            (FOUR, FOUR, (*FOUR[:3], (2, 4))), (FOUR, FOUR, (*FOUR[:3], (True, 1))), (FOUR, FOUR, (*FOUR[:3], (1, True))),
            (FOUR, FOUR, (*FOUR[:3], [1, 1])), (FOUR, FOUR, (1, 1, 1, 1)), (FOUR, ((1, 0), *FOUR[1:]), FOUR),
            (FOUR, ((1, -1), *FOUR[1:]), FOUR), (FOUR, FOUR, (*FOUR, FOUR[0])), (ODD,))

# What is no rule of three places, no place of three, no order of three.
BAD_RULES = (*NO_RULES, (), ODD[:2], (*ODD, FOUR))
BAD_PLACES = (3, -1, True, False, None, "0", (0,), [0], 10 ** 59)
BAD_ORDERS = (None, True, 0, "012", (), (0, 1), (0, 1, 1), (0, 1, 3), [0, 1, 2], (0, True, 2), (False, 1, 2), (0, 1, 2, 3),
              (-1, 0, 1), ("0", 1, 2), ((0,), 1, 2))
