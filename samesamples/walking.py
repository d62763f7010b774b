"""All events of a voice."""

from samesamples.demands import demand
from samesamples.errors import TooMany
from samesamples.kinds import is_within
from samesamples.passages import voice_passage
from samesamples.walks import events_between

MOST = 2000


def walk_of(score, voice):
    """The tuple of the voice's events."""
    demand(is_voice(score, voice), "voice")
    passage = voice_passage(score, voice)
    if passage.count > MOST:
        raise TooMany(passage.count)
    return events_between(passage, 0, passage.count)


def is_voice(score, thing):
    """Whether thing is the number of a voice of the score."""
    return is_within(thing, 0, len(score[3]) - 1)
