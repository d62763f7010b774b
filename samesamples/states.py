"""The states of boxes: the one at the start, and what a state is."""

from samesamples.demands import demand
from samesamples.kinds import ONE, TOP, is_integer, is_number, is_within, is_worth
from samesamples.knobkinds import is_pitch, is_settled, is_share


def start_of(kind, knobs):
    """The state of a settled box at the start."""
    demand(is_settled(kind, knobs), "knobs")
    return start_by(kind, knobs)


def start_by(kind, knobs):
    """As start_of, for knobs that have been looked at."""
    if kind in ("clock", "noise"):
        return knobs[0]
    if kind == "voices":
        return ()
    many = _worths_kept(kind, knobs)
    return 0 if many is None else (0,) * many


def is_state(kind, knobs, thing):
    """Whether thing is a state of a settled box."""
    demand(is_settled(kind, knobs), "knobs")
    if kind in ("smooth", "latch"):
        return is_worth(thing)
    if kind == "voices":
        return _are_voices(knobs, thing)
    many = _worths_kept(kind, knobs)
    if many is None:
        return is_within(thing, 0, _greatest(kind, knobs))
    if not isinstance(thing, tuple) or len(thing) != many or not all(is_worth(worth) for worth in thing):
        return False
    return kind != "peak" or all(worth >= 0 for worth in thing)


def _worths_kept(kind, knobs):
    """How many worths the state keeps as a tuple; None if it is none."""
    if kind == "second":
        return 4
    if kind == "taps":
        return len(knobs[0]) - 1
    return knobs[0] - 1 if kind in ("peak", "mean") else None


def _greatest(kind, knobs):
    """The greatest number that is a state of this kind."""
    if kind in ("clock", "press"):
        return TOP
    if kind == "roll":
        return 2 ** 20
    if kind == "reel":
        return 2 ** 32
    if kind == "noise":
        return 2 ** 32 - 1
    return len(knobs[0]) * knobs[2] - 1 if kind == "wave" else 0


def _are_voices(knobs, thing):
    if not isinstance(thing, tuple) or len(thing) > knobs[1]:
        return False
    span = len(knobs[3]) * ONE
    return all([_is_voice(span, voice) for voice in thing])


def _is_voice(span, thing):
    if not isinstance(thing, tuple) or len(thing) != 5:
        return False
    pitch, phase, age, left, loud = thing
    if not is_pitch(pitch) or not is_within(phase, 0, span - 1) or not is_number(age):
        return False
    return is_integer(left) and left >= 1 and is_share(loud)
