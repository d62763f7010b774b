"""The events of a voice in a window, and how many stand ahead of a beat."""

from samesamples.demands import demand
from samesamples.errors import TooMany
from samesamples.passages import voice_passage
from samesamples.quotients import is_position, less
from samesamples.walking import MOST, is_voice
from samesamples.walks import events_ahead, events_between


def window_of(score, voice, low, high):
    """The voice's events from beat low to below beat high."""
    demand(is_voice(score, voice), "voice")
    demand(is_position(low), "low")
    demand(is_position(high), "high")
    if not less(low, high):
        return ()
    passage = voice_passage(score, voice)
    first = events_ahead(passage, low)
    last = events_ahead(passage, high)
    if last - first > MOST:
        raise TooMany(last - first)
    return events_between(passage, first, last)


def ahead_of(score, voice, beat):
    """How many of the voice's events have a beat below this one."""
    demand(is_voice(score, voice), "voice")
    demand(is_position(beat), "beat")
    return events_ahead(voice_passage(score, voice), beat)
