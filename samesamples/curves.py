"""Curves: worths at positions, straight lines between them."""

from samesamples.demands import demand
from samesamples.kinds import is_integer, is_worth


def is_points(thing):
    """Whether thing is a tuple of 1 to 64 pairs of worths, the first ones ascending."""
    if not isinstance(thing, tuple) or not 1 <= len(thing) <= 64:
        return False
    if not all(_is_point(pair) for pair in thing):
        return False
    return all(pair[0] < later[0] for pair, later in zip(thing, thing[1:]))


def curve_at(points, pos):
    """The worth of the curve at pos."""
    demand(is_integer(pos), "pos")
    if pos <= points[0][0]:
        return points[0][1]
    for (low, worth), (high, later) in zip(points, points[1:]):
        if pos < high:
            return worth + (later - worth) * (pos - low) // (high - low)
    return points[-1][1]


def _is_point(thing):
    return isinstance(thing, tuple) and len(thing) == 2 and is_worth(thing[0]) and is_worth(thing[1])
