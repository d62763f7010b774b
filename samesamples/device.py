"""A device: it tells a history's samples tick by tick, each name as late as its lag."""

from samesamples.courses import Course
from samesamples.demands import demand
from samesamples.enginekinds import are_ears
from samesamples.errors import TooFar
from samesamples.evers import feeds_ever, names_ever, wires_ever
from samesamples.histories import is_entries
from samesamples.jobs import worked_out
from samesamples.kinds import CHANNELS, LAST, is_sound
from samesamples.linekinds import are_let_lags, is_late
from samesamples.lines import lengths_by, sum_of
from samesamples.notebooks import NoteBook
from samesamples.projectkinds import is_fresh, is_let
from samesamples.runs import Kinds
from samesamples.tracks import Tracks


class Device:
    """A history whose names are late, with lags that make up for it."""

    def __init__(self, project, entries, late, ears, lags):
        demand(is_let(project) and is_fresh(project), "project")
        demand(is_entries(entries), "entries")
        names, wires = names_ever(project, entries), wires_ever(project, entries)
        demand(is_late(names, late), "late")
        demand(are_ears(ears), "ears")
        demand(are_let_lags(names, wires, late, lags), "lags")
        self._ears = ears
        self._lags = dict(zip(names, lags))
        # What has the greater lag is at an earlier sample, and no inlet reads a later one than its box's own.
        self._sequence = sorted(set(lags))[::-1]
        self._lengths = lengths_by(names, wires, feeds_ever(project, entries), late, lags)
        self._kept = _kept_of(self._lags, wires)
        self._ticks = 0
        self._sounds = [[] for _ in range(CHANNELS)]
        self._filling = Kinds(self._sounds)
        self._course = Course(project, entries, NoteBook())
        self._tracks = Tracks()

    def tick(self, given):
        """Take what the channels have at this device sample; returns what the ears tell."""
        demand(is_sound(given) and len(given) == CHANNELS, "given")
        if self._ticks == LAST:
            raise TooFar(LAST)
        for sound, worth in zip(self._sounds, given):
            sound.append(worth)
        self._ticks += 1
        for lag in self._sequence:
            if lag < self._ticks:
                self._go_on(self._ticks - 1 - lag, lag)
        return tuple([self._worth_of(ear) for ear in self._ears])

    def ticks(self):
        """How many ticks there were."""
        return self._ticks

    def lengths(self):
        """The lengths of the device's lines, of names and of channels."""
        return self._lengths

    def held(self):
        """How many samples the device's lines hold."""
        return sum_of(self._lengths)

    def _go_on(self, sample, lag):
        """Work out the sample of the names with this lag."""
        order = self._course.segment_at(sample).order
        late = [name for name in self._lags if self._lags[name] == lag]
        away = [name for name in late if name not in order]
        for name in away + [one for one in order if one in late]:
            worths, states = worked_out(self._course, self._tracks, self._filling, name, sample, sample + 1)
            self._tracks.lay(name, worths, states)
            self._tracks.track(name).forget(sample + 1 - self._kept[name])

    def _worth_of(self, ear):
        """What the ear tells at this tick; 0 if it is none of the names, or its lag is not over yet."""
        return self._tracks.track(ear).worth(self._ticks - 1 - self._lags.get(ear, 0))


def _kept_of(lags, wires):
    """By name how many of its last worths may still be read."""
    kept = {name: 1 for name in lags}
    for source, name, delay in wires:
        kept[source] = max(kept[source], delay + lags[name] - lags[source] + 1)
    return kept
