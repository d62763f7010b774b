"""Quotients [15], and what follows [22]."""

from fractions import Fraction
from math import floor

from samesamples.kinds import is_quotient
from samesamples.quotients import floor_of, less, minus, over, plus, quotient_of, times
from helpers import ANYTHING, Case, drawing, fraction, quotient

BOTH = (plus, minus, times, over, less)


def drawn_quotient(source):
    size = source.choice((3, 50, 10 ** 30))
    return quotient(Fraction(source.randint(-size, size), source.randint(1, size)))


class Quotients(Case):
    def test_quotient_of(self):
        for top, bottom, told in (
            (6, 4, (3, 2)), (6, -4, (-3, 2)), (-6, -4, (3, 2)), (-6, 4, (-3, 2)), (0, -4, (0, 1)), (0, 9, (0, 1)),
            (5, 1, (5, 1)), (5, -1, (-5, 1)), (10 ** 59, 10 ** 58, (10, 1)),
        ):
            self.same(quotient_of(top, bottom), told)

    def test_reckoning(self):
        source = drawing(15)
        for _ in range(1000):
            one, other = drawn_quotient(source), drawn_quotient(source)
            a, b = fraction(one), fraction(other)
            self.same(plus(one, other), quotient(a + b))
            self.same(minus(one, other), quotient(a - b))
            self.same(times(one, other), quotient(a * b))
            self.same(less(one, other), a < b)
            self.same(floor_of(one), floor(a))
            if b != 0:
                self.same(over(one, other), quotient(a / b))

    def test_nought(self):
        self.same(plus((1, 2), (-1, 2)), (0, 1))
        self.same(minus((1, 2), (1, 2)), (0, 1))
        self.same(times((0, 1), (-5, 7)), (0, 1))
        self.same(over((0, 1), (-5, 7)), (0, 1))
        self.same((less((0, 1), (0, 1)), less((-1, 9), (0, 1)), less((0, 1), (1, 9))), (False, True, True))

    def test_floor(self):
        self.same([floor_of(one) for one in ((-3, 2), (-1, 9), (0, 1), (1, 9), (4, 1), (-4, 1))], [-2, -1, 0, 0, 4, -4])

    def test_there_and_back(self):
        source = drawing(22)
        for _ in range(500):
            one, other = drawn_quotient(source), drawn_quotient(source)
            self.same(minus(plus(one, other), other), one)
            if other != (0, 1):
                self.same(over(times(one, other), other), one)
            for right in (other, one):
                self.assertEqual([one == right, less(one, right), less(right, one)].count(True), 1)

    def test_wrong_inputs(self):
        for thing in ANYTHING:
            if not is_quotient(thing):
                for function in BOTH:
                    self.refuses("one", function, thing, thing)
                    self.refuses("other", function, (1, 2), thing)
                self.refuses("quotient", floor_of, thing)
            if not isinstance(thing, int) or isinstance(thing, bool):
                self.refuses("top", quotient_of, thing, 0)
                self.refuses("bottom", quotient_of, 1, thing)
        self.refuses("bottom", quotient_of, 1, 0)
        self.refuses("other", over, (1, 2), (0, 1))
        self.refuses("one", over, (2, 4), (0, 1))

    def test_by_name(self):
        self.same(quotient_of(bottom=4, top=2), (1, 2))
        self.same(less(other=(1, 2), one=(1, 3)), True)
        self.same(floor_of(quotient=(7, 2)), 3)
