"""The steps of filters and meters: each tells the state behind it and the worth."""

from samesamples.kinds import ONE
from samesamples.shapers import weighed
from samesamples.wholes import clip, turned


def _newest_first(worth, kept):
    """The kept worths with this one in front, without the last one."""
    return ((worth,) + kept)[:len(kept)]


def _smooth(knobs, held, worths):
    told = held + turned((worths[0] - held) * knobs[0], ONE, knobs[1])
    return told, told


def _second(knobs, kept, worths):
    x1, x2, y1, y2 = kept
    b0, b1, b2, a1, a2, mode = knobs
    told = clip(turned(b0 * worths[0] + b1 * x1 + b2 * x2 - a1 * y1 - a2 * y2, ONE, mode))
    return (worths[0], x1, told, y1), told


def _taps(knobs, kept, worths):
    told = clip(turned(weighed(knobs[0], (worths[0],) + kept), ONE, "near"))
    return _newest_first(worths[0], kept), told


def _press(knobs, height, worths):
    edge, num, den, rise, fall = knobs
    key = abs(worths[1])
    if key > height:
        height = height + (key - height) * rise // ONE
    else:
        height = height - (height - key) * fall // ONE
    if height <= edge:
        return height, worths[0]
    return height, turned(worths[0] * (edge + (height - edge) * num // den), height, "zero")


def _peak(knobs, kept, worths):
    height = abs(worths[0])
    return _newest_first(height, kept), max((height,) + kept)


def _mean(knobs, kept, worths):
    return _newest_first(worths[0], kept), turned(worths[0] + sum(kept), knobs[0], "near")


FILTERS = {
    "smooth": _smooth,
    "second": _second,
    "taps": _taps,
    "press": _press,
    "peak": _peak,
    "mean": _mean,
}
