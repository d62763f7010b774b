"""The seams of histories, and the segments between them."""

from samesamples.demands import demand
from samesamples.histories import Standings, is_entries
from samesamples.notebooks import NoteBook


def seams_of(entries):
    """The begins and untils above 0, ascending."""
    demand(is_entries(entries), "entries")
    return _seams(entries)


def segments_of(project, entries):
    """The triples (low, high, project) of all segments, ascending; the last high is None."""
    demand(is_entries(entries), "entries")
    return tuple(segments_by(project, entries, NoteBook()))


def segments_by(project, entries, book):
    """As segments_of, in a list, with the notes that the book tells."""
    standings = Standings(project, entries, book)
    lows = (0,) + _seams(entries)
    told = []
    for low, high in zip(lows, lows[1:] + (None,)):
        standings.go_to(low)
        told.append((low, high, standings.project()))
    return told


def _seams(entries):
    begins = [begin for begin, _, _ in entries]
    untils = [until for _, until, _ in entries if until is not None]
    return tuple([seam for seam in sorted(set(begins + untils)) if seam > 0])
