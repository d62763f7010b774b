"""Resampling: a sound is spread, weighed over, and thinned."""

from math import gcd

from samesamples.demands import demand
from samesamples.kinds import ONE, is_sound, is_within
from samesamples.spreads import is_factor
from samesamples.wholes import clip, turned

_MOST_WEIGHTS = 64
_GREATEST = 65536


def resampled(sound, up, down, weights):
    """The sound spread by up, each down-th place of it weighed with the places ahead."""
    demand(is_sound(sound), "sound")
    _demand_plan(up, down, weights)
    return _told_from(sound, up, down, weights, 0)


def steady(up, down, weights):
    """True if a lasting worth stays as it is; else the least place within up at which it does not."""
    _demand_plan(up, down, weights)
    for start in range(0, up, gcd(up, down)):
        if sum(weights[start::up]) != ONE:
            return start
    return True


class Resampler:
    """A resampling of a sound that comes in pieces."""

    def __init__(self, up, down, weights):
        _demand_plan(up, down, weights)
        self._up = up
        self._down = down
        self._weights = weights
        self._sound = []
        self._told = []

    def push(self, sound):
        """Take a further piece; returns what it adds to the resampled sound."""
        demand(is_sound(sound), "sound")
        self._sound += list(sound)
        new = _told_from(self._sound, self._up, self._down, self._weights, len(self._told))
        self._told += list(new)
        return new

    def told(self):
        """All that was returned so far."""
        return tuple(self._told)


def _demand_plan(up, down, weights):
    demand(is_factor(up), "up")
    demand(is_factor(down), "down")
    demand(_are_weights(weights), "weights")


def _are_weights(thing):
    if not isinstance(thing, tuple) or not 1 <= len(thing) <= _MOST_WEIGHTS:
        return False
    return all(is_within(weight, -_GREATEST, _GREATEST) for weight in thing)


def _told_from(sound, up, down, weights, first):
    """The worths of the resampled sound from the first one on."""
    places = range(down * first, up * len(sound), down)
    return tuple([clip(turned(_weighed_at(sound, up, weights, place), ONE, "near")) for place in places])


def _weighed_at(sound, up, weights, place):
    """The sum over the weights, each times the spread sound's worth so far ahead of the place."""
    total = 0
    at, ahead = divmod(place, up)
    # Between the worths of the sound itself the spread one has noughts.
    for weight in weights[ahead::up]:
        if at >= 0:
            total += weight * sound[at]
        at -= 1
    return total
