"""What a change touches: the seeds of two histories, and all that hangs on them."""

from samesamples.courses import Course, names_of_all, shared_segments
from samesamples.histories import demand_histories
from samesamples.markings import no_marks, places_of, places_read, spread
from samesamples.notebooks import NoteBook


def seeds_of(project, one, other, goal):
    """The places below goal that are seeds, ascending."""
    demand_histories(one, other, goal)
    book = NoteBook()
    return places_of(_seeds(Course(project, one, book), Course(project, other, book), goal))


def cone_of(project, one, other, goal):
    """The ascending pairs (name, stretches) of the names with a touched place below goal."""
    demand_histories(one, other, goal)
    book = NoteBook()
    course = Course(project, one, book)
    marks = _seeds(course, Course(project, other, book), goal)
    # What is no seed stands, reads and is carried in one as in other, so what hangs on seeds is the same in both.
    spread(course, marks, goal)
    return tuple([(name, _stretches(marks[name])) for name in sorted(marks) if any(marks[name])])


def is_lone_or_unlike(one, other, name):
    """Whether a name stands in just one of two segments, or in both with other kinds or settled knobs."""
    if name not in one.boxes or name not in other.boxes:
        return True
    box, its = one.boxes[name], other.boxes[name]
    return box[0] != its[0] or box[2] != its[2]


def _seeds(one, other, goal):
    """Marks on the seeds of two courses."""
    marks = no_marks(names_of_all(one.segments + other.segments), goal)
    stood, others = one.presence(goal), other.presence(goal)
    for segment, its, low, high in shared_segments(one, other, goal):
        for name in names_of_all([segment, its]):
            if is_lone_or_unlike(segment, its, name):
                marks[name][low:high] = [True] * (high - low)
                continue
            for sample in range(low, high):
                carried = segment.carries(name, sample), its.carries(name, sample)
                reads = places_read(segment, name, sample, stood), places_read(its, name, sample, others)
                marks[name][sample] = carried[0] != carried[1] or reads[0] != reads[1]
    return marks


def _stretches(marks):
    """The ascending pairs (low, high) of the longest stretches of marks."""
    found = []
    for sample, marked in enumerate(marks):
        if marked and found and found[-1][1] == sample:
            found[-1] = (found[-1][0], sample + 1)
        elif marked:
            found.append((sample, sample + 1))
    return tuple(found)
