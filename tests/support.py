"""What the tests share: values, books of small sizes, and checks that look at kinds, too."""

import itertools
import types
import unittest

RING, STAR = (2, 3, ((1, 0, 1), (0, 1, 1))), (2, 3, ((1, 1, 1),))
BOTH = (2, 6, ((1, 0, 1, 0, 0, 0), (0, 1, 1, 0, 0, 0), (0, 0, 0, 1, 1, 1)))
WIDE = (3, 4, ((1, 0, 1, 1), (0, 1, 1, 2)))
LONE = (2, 4, ((1, 0, 0, 0), (0, 1, 1, 0)))
FOUR = ((1, 1), (1, 1), (3, 1), (2, 1))
ODD = (FOUR, FOUR, ((1, 1), (1, 1), (4, 1), (2, 1)))
GREAT = 10 ** 60 - 1

# Values of which none is a tuple that begins with an integer: no quotient, lot, book or rule.
ODD_VALUES = (None, True, False, -1, 5, GREAT, "", "book", [], [0], [0, 1], [[0], 1], ("a",), ((),), (None,), (True,),
              (-1,), (0, True), ([0],), (1, 0), (0, 0), (GREAT,))


def same(value, wanted):
    """Whether both are equal and of the same kinds throughout, so that True is not 1."""
    if type(value) is not type(wanted):
        return False
    if isinstance(value, (tuple, list)):
        return len(value) == len(wanted) and all(same(a, b) for a, b in zip(value, wanted))
    if isinstance(value, dict):
        return list(value) == list(wanted) and all(same(value[key], wanted[key]) for key in value)
    return value == wanted


def fields_of(error):
    return {name: getattr(error, name) for name in vars(error) if not name.startswith("__")}


class Case(unittest.TestCase):
    """A test case with checks of exact kinds, and of errors with their fields."""

    def exact(self, value, wanted):
        self.assertTrue(same(value, wanted), f"{value!r} is not {wanted!r}")

    def refused(self, kind, fields, call, *args, **named):
        """The call raises just this error with just these fields."""
        with self.assertRaises(kind) as caught:
            result = call(*args, **named)
            if isinstance(result, types.GeneratorType):
                next(result)
        self.assertIs(type(caught.exception), kind)
        self.assertEqual(list(fields_of(caught.exception)), list(fields))
        for name, wanted in fields.items():
            self.exact(getattr(caught.exception, name), wanted)


def lots_of(size):
    """All lots of so many places."""
    return [lot for many in range(size + 1) for lot in itertools.combinations(range(size), many)]


def books_of(prime, size):
    """All books of this prime and size, straight from what settled form means."""
    for leads in lots_of(size):
        spots = [(k, at) for k, lead in enumerate(leads) for at in range(lead + 1, size) if at not in leads]
        for digits in itertools.product(range(prime), repeat=len(spots)):
            rows = [[int(at == lead) for at in range(size)] for lead in leads]
            for (k, at), digit in zip(spots, digits):
                rows[k][at] = digit
            yield (prime, size, tuple(map(tuple, rows)))


# So many books of each prime that all kinds of places and parts come up, and the tests stay quick.
SIZES = ((2, 4), (3, 3), (5, 2), (7, 2))
SMALL_BOOKS = [book for prime, most in SIZES for size in range(most + 1) for book in books_of(prime, size)]

# Books of up to eight places, of each prime.
GREAT_BOOKS = [
    BOTH, WIDE,
    (2, 7, ((1, 0, 0, 0, 1, 1, 0), (0, 1, 0, 0, 1, 0, 1), (0, 0, 1, 0, 0, 1, 1), (0, 0, 0, 1, 1, 1, 1))),
    (2, 8, ((1, 1, 0, 0, 0, 0, 0, 1), (0, 0, 1, 0, 1, 0, 0, 0), (0, 0, 0, 1, 1, 0, 0, 0), (0, 0, 0, 0, 0, 0, 1, 0))),
    (3, 6, ((1, 0, 2, 0, 1, 0), (0, 1, 1, 0, 0, 0), (0, 0, 0, 1, 2, 0))),
    (5, 5, ((1, 0, 1, 1, 1), (0, 1, 1, 2, 4))),
    (7, 5, ((1, 0, 0, 3, 0), (0, 1, 0, 6, 0), (0, 0, 1, 0, 5))),
]
