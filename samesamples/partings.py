"""Partings: boxes that sums along a ring without delay leave more than one way, and others that they leave none."""

from samesamples.demands import demand
from samesamples.kinds import ONE, alike
from samesamples.ringkinds import are_wires
from samesamples.rings import is_ring, ring_up_to

_MOST_INLETS = 8


def parting_of(names, wires):
    """None if wires of delay 0 have no ring; else (ring, filling, other)."""
    demand(_can_be_boxes(names, wires), "wires")
    ring = ring_up_to(names, wires, 0)
    if ring is None:
        return None
    return ring, _filling(names, wires, ring), _other(names, wires, ring)


def is_parted(names, wires, thing):
    """Whether thing is a triple (ring, filling, other) as parting_of may tell it."""
    demand(_can_be_boxes(names, wires), "wires")
    if not isinstance(thing, tuple) or len(thing) != 3:
        return False
    ring = thing[0]
    if not is_ring(wires, ring) or not all([wires[place][2] == 0 for place in ring]):
        return False
    return alike(thing[1:], (_filling(names, wires, ring), _other(names, wires, ring)))


def _filling(names, wires, ring):
    """Knobs of mixes that take the ring's wires as they are, and nothing else."""
    return _knobs(names, wires, {place: ONE for place in ring}, {})


def _other(names, wires, ring):
    """The same, but the ring's least name takes the ring's wire the other way round, and adds 1."""
    least = min([wires[place][1] for place in ring])
    weights = {place: -ONE if wires[place][1] == least else ONE for place in ring}
    return _knobs(names, wires, weights, {least: 1})


def _knobs(names, wires, weights, biases):
    """For each name the pair of the weights of its wires, 0 where none is told, and the bias."""
    rows = {name: [] for name in names}
    for place, wire in enumerate(wires):
        rows[wire[1]].append(weights.get(place, 0))
    return tuple([(tuple(rows[name]), biases.get(name, 0)) for name in names])


def _can_be_boxes(names, wires):
    """Whether wires are such, with no more to one name than a mix has inlets."""
    if not are_wires(names, wires):
        return False
    many = {name: 0 for name in names}
    for _, name, _ in wires:
        many[name] += 1
    return all([many[name] <= _MOST_INLETS for name in names])
