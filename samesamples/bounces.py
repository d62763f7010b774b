"""The sound of an engine's name, and the deed that puts it in the name's place."""

from samesamples.demands import demand
from samesamples.enginekinds import is_stretch
from samesamples.kinds import is_name, is_sample

_LONGEST_SOUND = 600


def bounce(engine, name, low, high):
    """The worths of the name from low to below high, as a sound."""
    return engine.worths(name, low, high)


def frozen_deed(engine, name, low, high):
    """The deed that puts the name's own sound from low to below high in its place."""
    demand(is_name(name), "name")
    demand(is_sample(low), "low")
    demand(is_stretch(low, high) and high <= low + _LONGEST_SOUND, "high")
    demand(name in engine.course().segment_at(low).boxes, "name")
    sound = bounce(engine, name, low, high)
    return "all", (("put", name, "roll", (sound,), ()), ("anew", name))
