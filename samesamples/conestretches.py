"""The cone of two histories, found by segments."""

from samesamples.cones import is_lone_or_unlike
from samesamples.courses import Course, names_of_all, shared_segments
from samesamples.histories import demand_histories
from samesamples.notebooks import NoteBook
from samesamples.ringsums import fallen


def cone_by_segments(project, one, other, goal):
    """What cone_of returns: the ascending pairs (name, stretches) of the touched names."""
    demand_histories(one, other, goal)
    book = NoteBook()
    return cone_between(Course(project, one, book), Course(project, other, book), goal)


def cone_between(one, other, goal):
    """The cone of two courses below goal."""
    cone = Cone()
    for segment, its, low, high in shared_segments(one, other, goal):
        cone.go_on(segment, its, low, high)
    return tuple([(name, tuple(cone.touched[name])) for name in sorted(cone.touched)])


class Cone:
    """By name the stretches that are known so far, each an ascending list of pairs (low, high).

    Ones and others are where the name stands in each history, touched where it is touched.
    """

    def __init__(self):
        self.ones = {}
        self.others = {}
        self.touched = {}

    def go_on(self, one, other, low, high):
        """Take in a segment of each history, between two seams of either."""
        names = names_of_all([one, other])
        for name in one.order:
            _put_stretch(self.ones, name, low, high)
        for name in other.order:
            _put_stretch(self.others, name, low, high)
        firsts = [self.first_for_itself(one, other, name, low) for name in names]
        # Within a segment a touched name stays touched, and touches what reads it as late as the wires' delays say.
        wires = [(wire[0], name, wire[1]) for name in one.order for wire in one.wires_to(name) if wire is not None]
        heights, _, _ = fallen(names, wires, firsts)
        for name in names:
            if heights[name] is not None and heights[name] < high:
                _put_stretch(self.touched, name, heights[name], high)

    def first_for_itself(self, one, other, name, low):
        """The first sample from low on at which the name is touched but for what the segment's others hand on."""
        if is_lone_or_unlike(one, other, name) or one.carries(name, low) != other.carries(name, low):
            return low
        if one.carries(name, low) and _first_in(self.touched, name, low - 1) == low - 1:
            return low
        found = []
        for wire, its in zip(one.wires_to(name), other.wires_to(name)):
            if wire == its:
                # Where a touched source stands in one alone, the inlets read unlike things.
                found.append(_first_read(self.touched, wire, low))
            else:
                found += [_first_read(self.ones, wire, low), _first_read(self.others, its, low)]
        return min([first for first in found if first is not None], default=None)


def _first_read(stretches, wire, low):
    """The first sample from low on at which the wire reads a place within the stretches of its source; or None."""
    if wire is None:
        return None
    first = _first_in(stretches, wire[0], low - wire[1])
    return None if first is None else first + wire[1]


def _first_in(stretches, name, low):
    """The first sample from low on within the name's stretches; None if there is none."""
    for begin, end in stretches.get(name, []):
        if end > low:
            return max(begin, low)
    return None


def _put_stretch(stretches, name, low, high):
    """Put a stretch behind the others of the name; stretches that touch are made one."""
    rows = stretches.setdefault(name, [])
    if rows and rows[-1][1] == low:
        rows[-1] = (rows[-1][0], high)
    else:
        rows.append((low, high))
