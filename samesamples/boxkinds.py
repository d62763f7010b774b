"""The kinds of boxes: their names, inlets and shapes."""

from samesamples.demands import demand
from samesamples.knobkinds import is_knobs, is_settled, kinds_told, knob_words

_INLETS = {
    "wave": 1,
    "gain": 2,
    "cross": 3,
    "fence": 1,
    "punch": 3,
    "latch": 2,
    "curve": 1,
    "tape": 1,
    "smooth": 1,
    "second": 1,
    "taps": 1,
    "press": 2,
    "peak": 1,
    "mean": 1,
    "voices": 1,
}


def kind_names():
    """The names of all kinds, ascending."""
    return tuple(sorted(kinds_told()))


def is_kind(thing):
    """Whether thing is the name of a kind."""
    return knob_words(thing) is not None


def inlets_of(kind, knobs):
    """How many inlets a box of this kind has with these knobs."""
    demand(_are_knobs(kind, knobs), "knobs")
    return inlets_by(kind, knobs)


def shape_of(kind, knobs):
    """The shape that kind and knobs give: by it the states go on from one box to another."""
    demand(_are_knobs(kind, knobs), "knobs")
    return shape_by(kind, knobs)


def inlets_by(kind, knobs):
    """As inlets_of, for knobs that have been looked at."""
    return len(knobs[0]) if kind == "mix" else _INLETS.get(kind, 0)


def shape_by(kind, knobs):
    """As shape_of, for knobs that have been looked at."""
    if kind == "wave":
        return len(knobs[0]), knobs[2]
    if kind == "voices":
        return knobs[1], len(knobs[3])
    if kind == "taps":
        return len(knobs[0])
    if kind in ("peak", "mean"):
        return knobs[0]
    return knobs[2] if kind == "reel" else 0


def _are_knobs(kind, knobs):
    return is_knobs(kind, knobs) or is_settled(kind, knobs)
