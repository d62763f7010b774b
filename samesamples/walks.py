"""Walks through passages, past all that lies wholly outside of what is asked for."""

from samesamples.kinds import ONE
from samesamples.quotients import floor_of, less, minus, over, plus, times


class Walk:
    """A walk that gathers the events from number first to below number last."""

    def __init__(self, first, last):
        self.first = first
        self.last = last
        self.beat = (0, 1)
        self.behind = 0
        self.events = []

    def go(self, passage, scale, shift, loud):
        """Go through the passage; the events that stand behind the walk are counted."""
        for part in passage.parts:
            if self.behind >= self.last:
                return
            if part.item[0] == "loud":
                loud = part.item[1]
            elif part.count == 0 or self.behind + part.count <= self.first:
                self.leave_out(times(scale, part.length), part.count)
            else:
                self.enter(part, scale, shift, loud)

    def enter(self, part, scale, shift, loud):
        """Go through one part that holds an event that is asked for."""
        word = part.item[0]
        if word == "note":
            beats = times(scale, part.length)
            self.events.append((self.beat, beats, part.item[1] + shift, loud))
            self.leave_out(beats, 1)
        elif word == "call":
            self.go(part.inner, scale, shift + part.item[2], loud)
        elif word == "by":
            self.go(part.inner, times(scale, part.item[1]), shift, loud)
        else:
            ahead = max(0, self.first - self.behind) // part.inner.count
            self.leave_out(times(scale, times((ahead, 1), part.inner.length)), ahead * part.inner.count)
            for _ in range(part.item[1] - ahead):
                if self.behind >= self.last:
                    return
                self.go(part.inner, scale, shift, loud)

    def leave_out(self, beats, count):
        """Pass what takes so many beats and gives so many events."""
        self.beat = plus(self.beat, beats)
        self.behind += count


def events_between(passage, first, last):
    """The passage's events from number first to below number last."""
    walk = Walk(first, last)
    walk.go(passage, (1, 1), 0, ONE)
    return tuple(walk.events)


def events_ahead(passage, beat):
    """How many events of the passage have a beat below this one."""
    count = 0
    while passage is not None:
        wholly, passage, beat = _step_inside(passage, beat)
        count += wholly
    return count


def _step_inside(passage, beat):
    """How many events lie wholly ahead; and where beat falls: the passage there or None, the beat within it."""
    count = 0
    for part in passage.parts:
        if less(beat, part.length):
            more, inner, room = _step_into(part, beat)
            return count + more, inner, room
        count += part.count
        beat = minus(beat, part.length)
    return count, None, beat


def _step_into(part, beat):
    """As _step_inside, for a beat within one part."""
    word = part.item[0]
    if part.count == 0:
        return 0, None, beat
    if word == "note":
        return (1 if less((0, 1), beat) else 0), None, beat
    if word == "call":
        return 0, part.inner, beat
    if word == "by":
        return 0, part.inner, over(beat, part.item[1])
    whole = floor_of(over(beat, part.inner.length))
    return whole * part.inner.count, part.inner, minus(beat, times((whole, 1), part.inner.length))
