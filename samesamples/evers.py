"""What stands in a history at whatever sample: names, wires, feeds."""

from samesamples.demands import demand
from samesamples.histories import is_entries
from samesamples.notebooks import NoteBook
from samesamples.projects import names_of, wires_of
from samesamples.segments import segments_by


def names_ever(project, entries):
    """The names that stand in some segment, ascending."""
    return _ascending([name for one in _standings(project, entries) for name in names_of(one)])


def wires_ever(project, entries):
    """The triples (source, name, delay) of the wires of all segments, ascending."""
    return _ascending([wire for one in _standings(project, entries) for wire in wires_of(one)])


def feeds_ever(project, entries):
    """The pairs (name, channel) of the feeds of all segments, ascending."""
    boxes = [pair for one in _standings(project, entries) for pair in one[0]]
    return _ascending([(name, knobs[0]) for name, (kind, _, knobs, _) in boxes if kind == "feed"])


def _standings(project, entries):
    """The projects of all segments."""
    demand(is_entries(entries), "entries")
    return [one for _, _, one in segments_by(project, entries, NoteBook())]


def _ascending(things):
    return tuple(sorted(set(things)))
