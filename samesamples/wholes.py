"""Integers: clipping, and dividing in a mode."""

from samesamples.demands import demand
from samesamples.kinds import TOP, is_integer, is_mode


def clip(value):
    """Of -TOP, TOP and value the one in the middle."""
    demand(is_integer(value), "value")
    return max(-TOP, min(TOP, value))


def turned(value, many, mode):
    """value divided by many: down to the floor, to the near one, or cut off towards zero."""
    demand(is_integer(value), "value")
    demand(is_integer(many) and many >= 1, "many")
    demand(is_mode(mode), "mode")
    if mode == "near":
        return (2 * value + many) // (2 * many)
    if mode == "zero" and value < 0:
        return -(-value // many)
    return value // many
