"""On which places a place hangs, and which hang on it."""

from samesamples.courses import Course
from samesamples.demands import demand
from samesamples.histories import is_entries
from samesamples.kinds import is_goal, is_name, is_sample
from samesamples.markings import gather, no_marks, places_of, spread
from samesamples.notebooks import NoteBook


def hangs_on(project, entries, name, sample):
    """The places on which the place hangs, itself too, ascending."""
    _demand_place(entries, name, sample)
    course = Course(project, entries, NoteBook())
    marks = _one_mark(course, name, sample, sample + 1)
    gather(course, marks, sample + 1)
    return places_of(marks)


def touched_by(project, entries, name, sample, goal):
    """The places below goal that hang on the place, itself too, ascending."""
    _demand_place(entries, name, sample)
    demand(is_goal(goal) and goal > sample, "goal")
    course = Course(project, entries, NoteBook())
    marks = _one_mark(course, name, sample, goal)
    spread(course, marks, goal)
    return places_of(marks)


def _demand_place(entries, name, sample):
    demand(is_entries(entries), "entries")
    demand(is_name(name), "name")
    demand(is_sample(sample), "sample")


def _one_mark(course, name, sample, goal):
    """Marks below goal, only that of the place set."""
    marks = no_marks(course.names(goal) + [name], goal)
    marks[name][sample] = True
    return marks
