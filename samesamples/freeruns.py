"""Runs with the free filling, in which each worth tells all that it comes of."""

from samesamples.courses import Course
from samesamples.histories import demand_histories
from samesamples.notebooks import NoteBook
from samesamples.runs import run_by


def free_runs(project, one, other, goal):
    """The pair of tables of both histories, with the same numbers for the same keys."""
    demand_histories(one, other, goal)
    book, filling = NoteBook(), Free()
    return _table(Course(project, one, book), filling, goal), _table(Course(project, other, book), filling, goal)


class Free:
    """The free filling: a step's state and worth are the number of its key, each start is 0."""

    def __init__(self):
        self.knobs = {}
        self.numbers = {}

    def settle(self, box):
        """A number in the place of kind and settled knobs, which are long to compare."""
        kind, _, knobs, _ = box
        return self.knobs.setdefault((kind, knobs), len(self.knobs))

    def start(self, box):
        """The state ahead of the first step."""
        return 0

    def step(self, box, name, sample, state, worths):
        """The pair of the state behind the step and the worth."""
        number = self.numbers.setdefault((name, sample, box, state, worths), len(self.numbers) + 1)
        return number, number


def _table(course, filling, goal):
    worths, _ = run_by(course, filling, goal)
    return tuple([(name, tuple(worths[name])) for name in sorted(worths)])
