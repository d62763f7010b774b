"""Tunings: the ratio and the pitch of a key."""

from samesamples.demands import demand
from samesamples.errors import KeyAway
from samesamples.kinds import is_integer, is_quotient, is_within
from samesamples.quotients import floor_of, over, times


def is_tuning(thing):
    """Whether thing is a pair of a base and 1 to 24 ratios."""
    if not isinstance(thing, tuple) or len(thing) != 2:
        return False
    base, ratios = thing
    if not is_within(base, 1, 2 ** 20) or not isinstance(ratios, tuple):
        return False
    return 1 <= len(ratios) <= 24 and all(_is_ratio(ratio) for ratio in ratios)


def ratio_at(tuning, key):
    """By which quotient the pitch of key is that of key 0."""
    demand(is_integer(key), "key")
    ratios = tuning[1]
    octaves, degree = divmod(key, len(ratios))
    if not -8 <= octaves <= 8:
        raise KeyAway(key)
    ratio = (1, 1)
    for _ in range(abs(octaves)):
        ratio = times(ratio, ratios[-1])
    if octaves < 0:
        ratio = over((1, 1), ratio)
    if degree != 0:
        ratio = times(ratio, ratios[degree - 1])
    return ratio


def pitch_of(tuning, key):
    """The whole pitch of key."""
    demand(is_integer(key), "key")
    pitch = floor_of(times((tuning[0], 1), ratio_at(tuning, key)))
    if not 1 <= pitch <= 2 ** 20:
        raise KeyAway(key)
    return pitch


def _is_ratio(thing):
    return is_quotient(thing) and 1 <= thing[0] <= 4096 and thing[1] <= 4096
