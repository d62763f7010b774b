"""The steps of the boxes that make sound: each tells the state behind it and the worth."""

from samesamples.draws import draw, drawn
from samesamples.kinds import TOP


def table_at(table, phase, den):
    """The table at phase by den: a straight line from each worth to the next, from the last one to the first."""
    at, part = divmod(phase, den)
    worth = table[at]
    later = table[(at + 1) if at + 1 < len(table) else 0]
    return worth + (later - worth) * part // den


def clock_behind(knobs, pos):
    """The state of a clock one step behind pos."""
    return knobs[1] if pos + 1 == knobs[2] else min(pos + 1, TOP)


def worth_in(sound, at):
    """The worth of the sound at a place, 0 ahead of it and behind its end."""
    return sound[at] if 0 <= at < len(sound) else 0


def _level(knobs, state, worths):
    return state, knobs[0]


def _feed(knobs, state, worths):
    return state, worths[0]


def _clock(knobs, pos, worths):
    return clock_behind(knobs, pos), pos


def _noise(knobs, value, worths):
    value = draw(value)
    return value, drawn(value, knobs[1])


def _wave(knobs, phase, worths):
    table, num, den = knobs
    return (phase + num + worths[0]) % (len(table) * den), table_at(table, phase, den)


def _roll(knobs, at, worths):
    return min(at + 1, 2 ** 20), worth_in(knobs[0], at)


def _reel(knobs, phase, worths):
    sound, num, den = knobs
    at, part = divmod(phase, den)
    worth = worth_in(sound, at)
    return min(phase + num, 2 ** 32), worth + (worth_in(sound, at + 1) - worth) * part // den


MAKERS = {
    "level": _level,
    "feed": _feed,
    "clock": _clock,
    "noise": _noise,
    "wave": _wave,
    "roll": _roll,
    "reel": _reel,
}
