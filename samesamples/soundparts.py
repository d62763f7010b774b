"""Sounds cut, joined, mixed, faded, turned back."""

from samesamples.curves import curve_at, is_points
from samesamples.demands import demand
from samesamples.kinds import ONE, is_number, is_sound, is_within
from samesamples.wholes import clip, turned


def cut(sound, low, high):
    """The worths from low to below high."""
    demand(is_sound(sound), "sound")
    demand(is_number(low), "low")
    demand(is_within(high, low, len(sound)), "high")
    return sound[low:high]


def joined(sounds):
    """The sounds one behind another."""
    demand(isinstance(sounds, tuple) and all(is_sound(sound) for sound in sounds), "sounds")
    return tuple([worth for sound in sounds for worth in sound])


def mixed(parts):
    """The sounds at their places, added up and then clipped."""
    demand(isinstance(parts, tuple) and all(_is_part(part) for part in parts), "parts")
    sums = [0] * max([place + len(sound) for sound, place in parts], default=0)
    for sound, place in parts:
        for at, worth in enumerate(sound):
            sums[place + at] += worth
    return tuple([clip(total) for total in sums])


def faded(sound, points):
    """Each worth times what the curve has at its place."""
    demand(is_sound(sound), "sound")
    demand(is_points(points), "points")
    return tuple([clip(turned(worth * curve_at(points, at), ONE, "near")) for at, worth in enumerate(sound)])


def turned_back(sound):
    """The sound with the last worth first."""
    demand(is_sound(sound), "sound")
    return sound[::-1]


def _is_part(thing):
    """Whether thing is a pair of a sound and a place."""
    return isinstance(thing, tuple) and len(thing) == 2 and is_sound(thing[0]) and is_number(thing[1])
