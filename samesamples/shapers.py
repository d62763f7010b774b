"""The steps of the boxes that shape sound: each tells the state behind it and the worth."""

from samesamples.curves import curve_at
from samesamples.kinds import ONE
from samesamples.makers import worth_in
from samesamples.wholes import clip, turned


def weighed(weights, worths):
    """The sum of the worths, each times its weight."""
    return sum([weight * worth for weight, worth in zip(weights, worths)])


def _mix(knobs, state, worths):
    weights, bias = knobs
    return state, clip(turned(weighed(weights, worths), ONE, "near") + bias)


def _gain(knobs, state, worths):
    return state, clip(turned(worths[0] * worths[1], ONE, knobs[0]))


def _cross(knobs, state, worths):
    one, other, share = worths
    return state, one + turned((other - one) * max(0, min(share, ONE)), ONE, knobs[0])


def _fence(knobs, state, worths):
    return state, max(-knobs[0], min(worths[0], knobs[0]))


def _punch(knobs, state, worths):
    pos, old, new = worths
    return state, new if knobs[0] <= pos < knobs[1] else old


def _latch(knobs, held, worths):
    told = worths[0] if worths[1] > 0 else held
    return told, told


def _curve(knobs, state, worths):
    return state, curve_at(knobs[0], worths[0])


def _tape(knobs, state, worths):
    return state, worth_in(knobs[0], worths[0] - knobs[1])


SHAPERS = {
    "mix": _mix,
    "gain": _gain,
    "cross": _cross,
    "fence": _fence,
    "punch": _punch,
    "latch": _latch,
    "curve": _curve,
    "tape": _tape,
}
