"""What several tests need: values of all kinds, and a case that knows refusals."""

import random
import unittest
from fractions import Fraction

from samesamples.errors import NotUsable

# One value or more of each sort that a parameter of another sort must refuse.
ANYTHING = (
    None, True, False, 0, 1, -1, 7, 10 ** 60 - 1, "", "a", "1", "a b", "down", "\n", (), (1,), (True,), (0, 1),
    (1, 2), (2, 4), (1, 0), (1, -1), ((), ()), ("a", ()), [], [1], [0, 1], [(0, 1)], ((0, 1),), ((1, 2, 3),),
)


def drawing(seed):
    """A source of drawn inputs that are the same each time."""
    return random.Random(seed)


def fraction(quotient):
    return Fraction(quotient[0], quotient[1])


def quotient(value):
    value = Fraction(value)
    return value.numerator, value.denominator


def nested(deep):
    """Tuples nested so deep, () being one deep."""
    value = ()
    for _ in range(deep - 1):
        value = (value,)
    return value


def same(one, other):
    """Whether both are equal and of the same kinds throughout: True is not 1, a list no tuple."""
    if type(one) is not type(other):
        return False
    if isinstance(one, (tuple, list)):
        return len(one) == len(other) and all(same(a, b) for a, b in zip(one, other))
    return one == other


class Case(unittest.TestCase):
    """A test case that knows the package's refusals, and compares kinds too."""

    def same(self, one, other):
        self.assertTrue(same(one, other), f"{one!r} is not {other!r}")

    def refuses(self, word, function, *args, **named):
        with self.assertRaises(NotUsable) as caught:
            function(*args, **named)
        self.assertEqual((caught.exception.word, caught.exception.at), (word, -1))

    def raises(self, error, fields, function, *args):
        with self.assertRaises(error) as caught:
            function(*args)
        self.assertIs(type(caught.exception), error)
        self.same(tuple(vars(caught.exception).values()), fields)

    def only(self, function, right):
        """Of ANYTHING the function tells True of just those of right."""
        for thing in ANYTHING:
            self.assertIs(function(thing), any(same(thing, one) for one in right), repr(thing))
