"""Sounds spread by noughts, and thinned again."""

from samesamples.demands import demand
from samesamples.kinds import is_sound, is_within

MOST_SPREAD = 64


def spread(sound, many):
    """The sound with many - 1 noughts behind each worth."""
    _demand_both(sound, many)
    return tuple([one for worth in sound for one in [worth] + [0] * (many - 1)])


def kept_each(sound, many):
    """The worths at the places that many divides."""
    _demand_both(sound, many)
    return sound[::many]


def is_factor(thing):
    """Whether thing is a number by which a sound may be spread or thinned."""
    return is_within(thing, 1, MOST_SPREAD)


def _demand_both(sound, many):
    demand(is_sound(sound), "sound")
    demand(is_factor(many), "many")
