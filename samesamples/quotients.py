"""Quotients: pairs (top, bottom) in lowest terms, and how they are reckoned with."""

from math import gcd

from samesamples.demands import demand
from samesamples.kinds import is_integer, is_quotient


def quotient_of(top, bottom):
    """The quotient that stands for top / bottom."""
    demand(is_integer(top), "top")
    demand(is_integer(bottom) and bottom != 0, "bottom")
    shared = gcd(top, bottom)
    if bottom < 0:
        shared = -shared
    return top // shared, bottom // shared


def plus(one, other):
    """The sum of both."""
    _demand_both(one, other)
    return quotient_of(one[0] * other[1] + other[0] * one[1], one[1] * other[1])


def minus(one, other):
    """one less other."""
    _demand_both(one, other)
    return quotient_of(one[0] * other[1] - other[0] * one[1], one[1] * other[1])


def times(one, other):
    """The product of both."""
    _demand_both(one, other)
    return quotient_of(one[0] * other[0], one[1] * other[1])


def over(one, other):
    """one divided by other, which does not stand for 0."""
    _demand_both(one, other)
    demand(other[0] != 0, "other")
    return quotient_of(one[0] * other[1], one[1] * other[0])


def less(one, other):
    """Whether one is smaller than other."""
    _demand_both(one, other)
    return one[0] * other[1] < other[0] * one[1]


def floor_of(quotient):
    """The greatest integer that is not above quotient."""
    demand(is_quotient(quotient), "quotient")
    return quotient[0] // quotient[1]


def is_position(thing):
    """Whether thing is a quotient that is not below 0."""
    return is_quotient(thing) and thing[0] >= 0


def _demand_both(one, other):
    demand(is_quotient(one), "one")
    demand(is_quotient(other), "other")
