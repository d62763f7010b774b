"""Single steps and whole blocks of boxes."""

from samesamples.boxkinds import inlets_by
from samesamples.demands import demand
from samesamples.filters import FILTERS
from samesamples.kinds import is_sound, is_within
from samesamples.knobkinds import is_settled
from samesamples.makers import MAKERS
from samesamples.shapers import SHAPERS
from samesamples.states import is_state
from samesamples.voicings import voices_step


def one_step(kind, knobs, state, worths):
    """The pair of the state behind one step and the worth that it tells."""
    demand(is_settled(kind, knobs), "knobs")
    demand(is_state(kind, knobs, state), "state")
    demand(is_sound(worths) and len(worths) == columns_of(kind, knobs), "worths")
    return step_of(kind, knobs, state, worths)


def block_of(kind, knobs, state, columns, many):
    """The pair of the state behind many steps and the sound that they tell."""
    demand(is_settled(kind, knobs), "knobs")
    demand(is_state(kind, knobs, state), "state")
    demand(_are_columns(columns, columns_of(kind, knobs)), "columns")
    demand(is_within(many, 0, 2000) and (columns == () or many == len(columns[0])), "many")
    told = []
    for at in range(many):
        state, worth = step_of(kind, knobs, state, tuple([column[at] for column in columns]))
        told.append(worth)
    return state, tuple(told)


def step_of(kind, knobs, state, worths):
    """As one_step, for what has been looked at."""
    if kind == "voices":
        return voices_step(knobs, state, worths)
    if kind in MAKERS:
        step = MAKERS[kind]
    elif kind in SHAPERS:
        step = SHAPERS[kind]
    else:
        step = FILTERS[kind]
    return step(knobs, state, worths)


def columns_of(kind, knobs):
    """How many worths a step is given: one for each inlet, and for a feed what its channel has."""
    return 1 if kind == "feed" else inlets_by(kind, knobs)


def _are_columns(thing, many):
    if not isinstance(thing, tuple) or len(thing) != many or not all(is_sound(column) for column in thing):
        return False
    return all(len(column) == len(thing[0]) for column in thing)
