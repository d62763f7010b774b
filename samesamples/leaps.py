"""Many steps at once, for the boxes whose states can be told ahead."""

from samesamples.demands import demand
from samesamples.draws import draws_on
from samesamples.kinds import TOP, is_number
from samesamples.knobkinds import is_settled
from samesamples.states import is_state

_LEAPING = ("level", "clock", "noise", "wave", "roll", "reel")


def leap_of(kind, knobs, state, many):
    """The state behind many steps, the inlet of a wave telling 0."""
    demand(isinstance(kind, str) and kind in _LEAPING, "kind")
    demand(is_settled(kind, knobs), "knobs")
    demand(is_state(kind, knobs, state), "state")
    demand(is_number(many), "many")
    if kind == "clock":
        return _clock_behind(knobs, state, many)
    if kind == "noise":
        return draws_on(state, many)
    if kind == "wave":
        return (state + many * knobs[1]) % (len(knobs[0]) * knobs[2])
    if kind == "roll":
        return min(state + many, 2 ** 20)
    if kind == "reel":
        return min(state + many * knobs[1], 2 ** 32)
    return state


def _clock_behind(knobs, pos, many):
    """Where a clock stands many steps behind pos."""
    _, low, high = knobs
    if pos >= high or many < high - pos:
        # From high on, or on the way there, it only counts up, and stays at the top.
        return min(pos + many, TOP)
    many = many - (high - pos)
    if low < high:
        return low + many % (high - low)
    return min(low + many, TOP)
