"""Rounds: all names of an engine go on by one job each, one after the other."""

from samesamples.aheads import demand_given, demand_no_slips
from samesamples.buffers import greatest_buffer
from samesamples.demands import demand
from samesamples.enginekinds import are_cuts
from samesamples.errors import AcrossSeam, LongBuffer, Uneven
from samesamples.kinds import LAST
from samesamples.projects import names_of, wires_of
from samesamples.segments import seams_of


def buffer_now(engine):
    """The greatest buffer of what stands at the greatest front."""
    return _buffer_of(project_now(engine))[0]


def project_now(engine):
    """The project that stands at the greatest front; that of the last sample if the front is behind it."""
    return engine.course().segment_at(min(_greatest_front(engine), LAST - 1)).project


def go_rounds(engine, cuts):
    """Bring all names to each cut in its turn; returns how many jobs there were."""
    front = _greatest_front(engine)
    demand(are_cuts(cuts, front), "cuts")
    demand_no_slips(engine)
    names = engine.names()
    for name in names:
        if engine.front(name) != engine.front(names[0]):
            raise Uneven(name)
    rounds = list(zip((front,) + cuts, cuts))
    _demand_seams_apart(engine, rounds)
    buffers = _buffers_along(engine, rounds)
    _demand_short(rounds, buffers)
    demand_given(engine, [(name, cuts[-1]) for name in names])
    for (low, high), (_, order, _) in zip(rounds, buffers):
        # No wire that is shorter than the round leads from a later name to an earlier one.
        for name in [one for one in names if one not in order] + list(order):
            engine.begin(0, name, high - low)
            engine.end(0)
    return len(rounds) * len(names)


def _greatest_front(engine):
    return max([front for _, front in engine.fronts()], default=0)


def _buffer_of(project):
    """The triple of the project's greatest buffer, an order and a ring."""
    return greatest_buffer(names_of(project), wires_of(project))


def _buffers_along(engine, rounds):
    """For each round the triple of the greatest buffer of what stands where it begins."""
    told = []
    known = {}
    for low, _ in rounds:
        segment = engine.course().segment_at(low)
        if segment.low not in known:
            known[segment.low] = _buffer_of(segment.project)
        told.append(known[segment.low])
    return told


def _demand_seams_apart(engine, rounds):
    """Refuse rounds with a seam within."""
    seams = seams_of(engine.entries())
    for low, high in rounds:
        within = [seam for seam in seams if low < seam < high]
        if within:
            raise AcrossSeam(within[0])


def _demand_short(rounds, buffers):
    """Refuse rounds that are longer than the greatest buffer where they begin."""
    for (low, high), (greatest, _, _) in zip(rounds, buffers):
        if greatest is not None and high - low > greatest:
            raise LongBuffer(greatest)
