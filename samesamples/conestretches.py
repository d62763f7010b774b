"""The cone of two histories, found by segments."""

from samesamples.cones import is_lone_or_unlike
from samesamples.courses import Course, names_of_all, shared_segments
from samesamples.histories import demand_histories
from samesamples.notebooks import NoteBook
from samesamples.ringsums import fallen
from samesamples.stretches import Stretches


def cone_by_segments(project, one, other, goal):
    """What cone_of returns: the ascending pairs (name, stretches) of the touched names."""
    demand_histories(one, other, goal)
    book = NoteBook()
    return cone_between(Course(project, one, book), Course(project, other, book), goal)


def cone_between(one, other, goal):
    """The cone of two courses below goal."""
    cone = Cone()
    for segment, its, low, high in shared_segments(one, other, goal):
        cone.go_on(segment, its, low, high)
    return cone.touched.pairs()


class Cone:
    """The stretches that are known so far: ones and others are where names stand in each history."""

    def __init__(self):
        self.ones = Stretches()
        self.others = Stretches()
        self.touched = Stretches()

    def go_on(self, one, other, low, high):
        """Take in a segment of each history, between two seams of either."""
        names = names_of_all([one, other])
        for name in one.order:
            self.ones.put(name, low, high)
        for name in other.order:
            self.others.put(name, low, high)
        firsts = [self.first_for_itself(one, other, name, low) for name in names]
        # Within a segment a touched name stays touched, and touches what reads it as late as the wires' delays say.
        wires = [(wire[0], name, wire[1]) for name in one.order for wire in one.wires_to(name) if wire is not None]
        heights, _, _ = fallen(names, wires, firsts)
        for name in names:
            if heights[name] is not None and heights[name] < high:
                self.touched.put(name, heights[name], high)

    def first_for_itself(self, one, other, name, low):
        """The first sample from low on at which the name is touched but for what the segment's others hand on."""
        if is_lone_or_unlike(one, other, name) or one.carries(name, low) != other.carries(name, low):
            return low
        if one.carries(name, low) and self.touched.first(name, low - 1) == low - 1:
            return low
        found = []
        for wire, its in zip(one.wires_to(name), other.wires_to(name)):
            if wire == its:
                # Where a touched source stands in one alone, the inlets read unlike things.
                found.append(self.touched.first_read(wire, low))
            else:
                found += [self.ones.first_read(wire, low), self.others.first_read(its, low)]
        return min([first for first in found if first is not None], default=None)
