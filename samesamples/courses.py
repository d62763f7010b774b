"""The course of a history: its segments with the settled boxes that stand there, and which boxes are carried."""

from samesamples.kinds import LAST
from samesamples.projects import life_by, order_in, settled_by
from samesamples.segments import segments_by
from samesamples.stretches import Stretches


class Segment:
    """The samples from low to below high (without an end if that is None), and what stands there.

    Carried, as keys, are the names that are carried at low; behind it all that stand are.
    """

    def __init__(self, low, high, project, book):
        self.low = low
        self.high = high
        self.project = project
        self.boxes = dict(settled_by(project, book))
        self.lives = {name: life_by(box) for name, box in project[0]}
        self.order = order_in(project)
        self.carried = {}

    def go_on_from(self, ahead):
        """Note which boxes are carried from the segment ahead."""
        self.carried = {name: True for name in self.order if ahead.lives.get(name) == self.lives[name]}

    def carries(self, name, sample):
        """Whether the box of a name that stands here is carried at the sample."""
        return sample > self.low or name in self.carried

    def wires_to(self, name):
        """What the inlets of the box of a name that stands here have."""
        return self.boxes[name][3]


class Course:
    """All segments of a history, and the stretches of samples below LAST at which names stand."""

    def __init__(self, project, entries, book):
        self.segments = []
        self.stood = Stretches()
        for low, high, standing in segments_by(project, entries, book):
            segment = Segment(low, high, standing, book)
            if self.segments:
                segment.go_on_from(self.segments[-1])
            self.segments.append(segment)
        for segment, high in self.below(LAST):
            for name in segment.order:
                self.stood.put(name, segment.low, high)

    def below(self, goal):
        """The pairs of a segment and where it ends, as far as they begin below goal."""
        return [(segment, end) for segment, _, end in self.spans(0, goal)]

    def spans(self, low, high):
        """The triples of a segment, where it begins and where it ends, cut to the samples from low to below high."""
        found = []
        for segment in self.segments:
            start = max(segment.low, low)
            end = high if segment.high is None else min(segment.high, high)
            if start < end:
                found.append((segment, start, end))
        return found

    def segment_at(self, sample):
        """The segment in which the sample lies."""
        return [segment for segment in self.segments if segment.low <= sample][-1]

    def stands(self, name, sample):
        """Whether the name stands at this sample, which is below LAST; below 0 none does."""
        return sample >= 0 and self.stood.first(name, sample) == sample

    def names(self, goal):
        """The names that stand at some sample below goal, ascending."""
        return names_of_all([segment for segment, _ in self.below(goal)])

    def presence(self, goal):
        """By name for each sample below goal whether the name stands there."""
        stood = {name: [False] * goal for name in self.names(goal)}
        for segment, high in self.below(goal):
            for name in segment.order:
                stood[name][segment.low:high] = [True] * (high - segment.low)
        return stood


def names_of_all(segments):
    """The names that stand in any of the segments, ascending."""
    return sorted(set([name for segment in segments for name in segment.order]))


def shared_segments(one, other, goal):
    """The quadruples (segment of one, segment of other, low, high) of two courses, as far as they begin below goal."""
    found = []
    ones, others = one.below(goal), other.below(goal)
    low = 0
    while ones and others:
        high = min(ones[0][1], others[0][1])
        found.append((ones[0][0], others[0][0], low, high))
        ones = [pair for pair in ones if pair[1] > high]
        others = [pair for pair in others if pair[1] > high]
        low = high
    return found
