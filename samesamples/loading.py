"""Engines loaded from their saves."""

from samesamples.channels import Channels
from samesamples.datareadings import value_of
from samesamples.engine import Engine
from samesamples.errors import BadText
from samesamples.jobs import Slip
from samesamples.runs import Kinds, run_by
from samesamples.saves import ends_of, is_saved
from samesamples.sures import first_lacks
from samesamples.tracks import Tracks


def loaded(text):
    """The engine whose save is the text."""
    saved = value_of(text)
    if not is_saved(saved):
        raise BadText(0)
    project, entries, undone, ears, given, shut, heard, sealed, fronts, busy = saved
    engine = Engine(project, ears, entries)
    channels = _channels_of(given, shut)
    ends = ends_of(fronts, busy)
    goal = max(ends.values(), default=0)
    firsts = first_lacks(engine.course(), channels.amounts(), goal)
    if any([firsts.get(name, goal) < ends[name] for name in ends]):
        raise BadText(0)
    run = run_by(engine.course(), Kinds(channels.sounds), goal)
    tracks = Tracks()
    for name, front in fronts:
        worths, states = _worked_in(run, name, 0, front)
        tracks.lay(name, worths, states)
    engine.take_up(undone, channels, heard, sealed, tracks, _slips_of(run, busy))
    return engine


def _channels_of(given, shut):
    channels = Channels()
    for channel, (sound, closed) in enumerate(zip(given, shut)):
        channels.give(channel, sound)
        if closed:
            channels.close(channel)
    return channels


def _slips_of(run, busy):
    """By hand the slips, with what they lay; one that is struck lays nothing."""
    slips = {}
    for hand, name, low, many, struck in busy:
        worths, states = ([], []) if struck else _worked_in(run, name, low, low + many)
        slip = Slip(name, low, many, worths, states)
        slip.struck = struck
        slips[hand] = slip
    return slips


def _worked_in(run, name, low, high):
    """The lists of the name's worths and states from low to below high."""
    worths, states = run
    if name not in worths:
        return [0] * (high - low), [None] * (high - low)
    return worths[name][low:high], states[name][low:high]
