"""What must be worked out for a name to go on, and what the channels must have for it."""

from samesamples.courses import Course
from samesamples.demands import demand
from samesamples.enginekinds import are_fronts, are_spans
from samesamples.histories import is_entries
from samesamples.kinds import CHANNELS, LAST, is_goal, is_name
from samesamples.notebooks import NoteBook
from samesamples.projects import wires_of


def needs_of(project, entries, fronts, name, until):
    """The ascending pairs (name, need) of the names with a needed place; need is one above the last one."""
    demand(is_entries(entries), "entries")
    demand(are_fronts(fronts), "fronts")
    demand(is_name(name), "name")
    demand(is_goal(until), "until")
    return needs_by(Course(project, entries, NoteBook()), dict(fronts), (name,), until)


def channels_needed(project, entries, spans):
    """For each channel one above the last sample at which a name is its feed within a span of it; 0 without one."""
    demand(is_entries(entries), "entries")
    demand(are_spans(spans), "spans")
    return channels_by(Course(project, entries, NoteBook()), spans)


def needs_by(course, fronts, names, until):
    """As needs_of, for a course, with the fronts by name, and for several names that are to come to until."""
    needs = {name: until for name in names if fronts.get(name, 0) < until}
    # Nothing is needed below the least front of what the names may read.
    least = min([fronts.get(name, 0) for name in _upstream(course, list(needs))], default=until)
    for segment, start, end in reversed(course.spans(least, until)):
        for sample in range(end - 1, start - 1, -1):
            for name in segment.order[::-1]:
                if fronts.get(name, 0) <= sample < needs.get(name, 0):
                    _need_what_is_read(course, fronts, needs, segment.wires_to(name), sample)
    return tuple([(name, needs[name]) for name in sorted(needs)])


def channels_by(course, spans):
    """As channels_needed, for a course."""
    many = [0] * CHANNELS
    for name, low, high in spans:
        for segment, _, end in course.spans(low, min(high, LAST)):
            if name in segment.boxes and segment.boxes[name][0] == "feed":
                channel = segment.boxes[name][2][0]
                many[channel] = max(many[channel], end)
    return tuple(many)


def _need_what_is_read(course, fronts, needs, wires, sample):
    """Let what the wires read at the sample be needed, where it is not worked out."""
    for wire in wires:
        if wire is not None:
            source, at = wire[0], sample - wire[1]
            if at >= fronts.get(source, 0) and at >= needs.get(source, 0) and course.stands(source, at):
                needs[source] = at + 1


def _upstream(course, names):
    """These names, and all that they may read in whatever segment, in one way or another."""
    sources = {}
    for segment in course.segments:
        for source, name, _ in wires_of(segment.project):
            sources.setdefault(name, []).append(source)
    found = {name: True for name in names}
    fresh = list(names)
    while fresh:
        name = fresh.pop()
        for source in sources.get(name, []):
            if source not in found:
                found[source] = True
                fresh.append(source)
    return list(found)
