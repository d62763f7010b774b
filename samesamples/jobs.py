"""Jobs: which of their places are not ready, what they work out, and which samples are still read by later ones."""

from samesamples.kinds import LAST
from samesamples.sures import lacking_from


class Slip:
    """A job that a hand has begun, and what it lays if it is not struck."""

    def __init__(self, name, low, many, worths, states):
        self.name = name
        self.low = low
        self.many = many
        self.worths = worths
        self.states = states
        self.struck = False

    def high(self):
        """Where the job ends."""
        return self.low + self.many


def first_unready(course, tracks, amounts, name, low, high):
    """The pair (sample, inlet) of the first place of a job that is not ready; None if each is.

    The inlet is -1 for a feed whose channel lacks the sample.
    """
    for segment, start, end in course.spans(low, high):
        if name in segment.boxes:
            lacking = lacking_from(segment.boxes[name], amounts)
            found = [] if lacking is None else [(max(lacking, start), -1)]
            for inlet, wire in enumerate(segment.wires_to(name)):
                if wire is not None:
                    first = course.stood.first_read(wire, max(tracks.front(wire[0]) + wire[1], start))
                    if first is not None:
                        found.append((first, inlet))
            found = [place for place in found if place[0] < end]
            if found:
                return min(found)
    return None


def worked_out(course, tracks, filling, name, low, high):
    """The lists of worths and states of a job that is ready."""
    worths, states = [], []
    state = tracks.track(name).last_state()
    for segment, start, end in course.spans(low, high):
        if name not in segment.boxes:
            worths += [0] * (end - start)
            states += [None] * (end - start)
            continue
        box = segment.boxes[name]
        sources = [None if wire is None else (tracks.track(wire[0]), wire[1]) for wire in box[3]]
        for sample in range(start, end):
            # A place that is not kept is one where the source does not stand: its worth is 0.
            told = tuple([0 if one is None else one[0].worth(sample - one[1]) for one in sources])
            ahead = state if segment.carries(name, sample) else filling.start(box)
            state, worth = filling.step(box, name, sample, ahead, told)
            worths.append(worth)
            states.append(state)
    return worths, states


def read_from(course, tracks):
    """By name the least sample that is read below LAST by places from the reading names' fronts on."""
    wanted = {}
    for segment, end in course.below(LAST):
        for name in segment.order:
            start = max(tracks.front(name), segment.low)
            for wire in segment.wires_to(name):
                first = course.stood.first_read(wire, start)
                if first is not None and first < end:
                    source, delay = wire
                    wanted[source] = min(wanted.get(source, first - delay), first - delay)
    return wanted
