"""How far the worths of names are sure, by how much is given on the channels."""

from samesamples.courses import Course
from samesamples.demands import demand
from samesamples.histories import is_entries
from samesamples.kinds import CHANNELS, is_goal, is_number
from samesamples.markings import no_marks, spread
from samesamples.notebooks import NoteBook


def sure_until(project, entries, amounts, goal):
    """The ascending pairs (name, first): first is the least sample below goal that is not sure, or goal."""
    demand(is_entries(entries), "entries")
    demand(is_amounts(amounts), "amounts")
    demand(is_goal(goal), "goal")
    firsts = first_lacks(Course(project, entries, NoteBook()), amounts, goal)
    return tuple([(name, firsts[name]) for name in sorted(firsts)])


def first_lacks(course, amounts, goal):
    """By name the first sample below goal that is not sure, or goal, for the names that stand below goal."""
    marks = no_marks(course.names(goal), goal)
    for segment, high in course.below(goal):
        for name in segment.order:
            # A place of a feed that lacks its sample is not sure, and whatever hangs on it is not, either.
            lacking = lacking_from(segment.boxes[name], amounts)
            for sample in range(segment.low, high):
                marks[name][sample] = lacking is not None and sample >= lacking
    if any([any(marks[name]) for name in marks]):
        spread(course, marks, goal)
    return {name: (marks[name] + [True]).index(True) for name in marks}


def is_amounts(thing):
    """Whether thing is a quadruple with a number or None for each channel."""
    if not isinstance(thing, tuple) or len(thing) != CHANNELS:
        return False
    return all(many is None or is_number(many) for many in thing)


def lacking_from(box, amounts):
    """From which sample on the box lacks what its channel has; None if it lacks nothing."""
    return amounts[box[2][0]] if box[0] == "feed" else None
