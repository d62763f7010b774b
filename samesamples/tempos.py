"""Tempos: which sample a beat falls on, and which beat a time."""

from samesamples.demands import demand
from samesamples.kinds import is_quotient
from samesamples.quotients import floor_of, is_position, less, minus, over, plus, times


def is_tempo(thing):
    """Whether thing is a tuple of 1 to 40 pairs (beat, pace), ascending from beat 0."""
    if not isinstance(thing, tuple) or not 1 <= len(thing) <= 40:
        return False
    if not all(_is_stretch(pair) for pair in thing):
        return False
    return thing[0][0] == (0, 1) and all(less(pair[0], later[0]) for pair, later in zip(thing, thing[1:]))


def time_of(tempo, beat):
    """The exact number of samples from beat 0 to beat."""
    demand(is_position(beat), "beat")
    return time_by(tempo, begins_of(tempo), beat)


def beat_of(tempo, time):
    """The beat whose time is time."""
    demand(is_position(time), "time")
    begins = begins_of(tempo)
    at = _last_at(begins, time)
    start, pace = tempo[at]
    return plus(start, over(minus(time, begins[at]), pace))


def sample_of(tempo, beat):
    """The floor of the time of beat."""
    demand(is_position(beat), "beat")
    return floor_of(time_of(tempo, beat))


def begins_of(tempo):
    """The times of the beats at which the pairs of the tempo begin."""
    begins = [(0, 1)]
    for (start, pace), later in zip(tempo, tempo[1:]):
        begins.append(plus(begins[-1], times(minus(later[0], start), pace)))
    return begins


def time_by(tempo, begins, beat):
    """The time of beat, begins being what begins_of tells of the tempo."""
    at = _last_at([start for start, _ in tempo], beat)
    start, pace = tempo[at]
    return plus(begins[at], times(minus(beat, start), pace))


def _last_at(marks, position):
    """The place of the last of the ascending marks that is not above position."""
    at = 0
    while at + 1 < len(marks) and not less(position, marks[at + 1]):
        at += 1
    return at


def _is_stretch(thing):
    if not isinstance(thing, tuple) or len(thing) != 2:
        return False
    beat, pace = thing
    if not is_quotient(beat) or not is_quotient(pace):
        return False
    return 0 <= beat[0] <= 10 ** 6 and 0 < pace[0] <= 10 ** 5 and beat[1] <= 64 and pace[1] <= 64
