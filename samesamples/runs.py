"""Runs: what all boxes of a history tell, sample after sample."""

from samesamples.courses import Course
from samesamples.demands import demand
from samesamples.histories import is_entries
from samesamples.kinds import is_given, is_goal
from samesamples.notebooks import NoteBook
from samesamples.states import start_by
from samesamples.steps import step_of


def run_of(project, entries, given, goal):
    """The triple (names, worths, states) of the run below goal."""
    demand(is_entries(entries), "entries")
    demand(is_given(given), "given")
    demand(is_goal(goal), "goal")
    worths, states = run_by(Course(project, entries, NoteBook()), Kinds(given), goal)
    names = sorted(worths)
    return tuple(names), tuple([tuple(worths[name]) for name in names]), tuple([tuple(states[name]) for name in names])


class Kinds:
    """The filling of the kinds of boxes, with what is given on the channels."""

    def __init__(self, given):
        self.given = given

    def settle(self, box):
        """What start and step are told of the settled box."""
        return box

    def start(self, box):
        """The state ahead of the first step."""
        return start_by(box[0], box[2])

    def step(self, box, name, sample, state, worths):
        """The pair of the state behind the step and the worth."""
        kind, _, knobs, _ = box
        if kind == "feed":
            sound = self.given[knobs[0]]
            worths = (sound[sample] if sample < len(sound) else 0,)
        return step_of(kind, knobs, state, worths)


def run_by(course, filling, goal):
    """By name the worths and the states below goal in this filling."""
    names = course.names(goal)
    worths = {name: [0] * goal for name in names}
    states = {name: [None] * goal for name in names}
    for segment, high in course.below(goal):
        boxes = [(name, segment.wires_to(name), filling.settle(segment.boxes[name])) for name in segment.order]
        for sample in range(segment.low, high):
            for name, wires, box in boxes:
                told = tuple([_told(worths, wire, sample) for wire in wires])
                state = states[name][sample - 1] if segment.carries(name, sample) else filling.start(box)
                states[name][sample], worths[name][sample] = filling.step(box, name, sample, state, told)
    return worths, states


def _told(worths, wire, sample):
    """What an inlet with this wire tells: where a source does not stand its worth is 0."""
    if wire is None or wire[1] > sample:
        return 0
    return worths[wire[0]][sample - wire[1]]
