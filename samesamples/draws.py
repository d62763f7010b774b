"""Draws: the numbers that noise is made of, one after another or many at once."""

from samesamples.demands import demand
from samesamples.kinds import TOP, is_within

_FACTOR = 1664525
_GROWTH = 1013904223
_SPAN = 4294967296


def draw(value):
    """The number that is drawn behind value."""
    demand(is_within(value, 0, _SPAN - 1), "value")
    return (_FACTOR * value + _GROWTH) & (_SPAN - 1)


def drawn(value, peak):
    """The worth from -peak to peak that the number stands for."""
    demand(is_within(value, 0, _SPAN - 1), "value")
    demand(is_within(peak, 0, TOP), "peak")
    return value * (2 * peak + 1) // _SPAN - peak


def leap_draw(value, many):
    """The last of many draws, the first one of value."""
    demand(is_within(value, 0, _SPAN - 1), "value")
    demand(is_within(many, 0, 10 ** 30), "many")
    return draws_on(value, many)


def draws_on(value, many):
    """As leap_draw, for any number of draws."""
    factor, growth = _FACTOR, _GROWTH
    while many > 0:
        # factor and growth tell what 1, 2, 4, .. draws do; the binary figures of many choose.
        if many & 1:
            value = (factor * value + growth) & (_SPAN - 1)
        growth = (factor * growth + growth) & (_SPAN - 1)
        factor = (factor * factor) & (_SPAN - 1)
        many = many >> 1
    return value
