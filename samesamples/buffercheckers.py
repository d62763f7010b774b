"""The checker of the greatest buffer."""

from samesamples.demands import demand, insist
from samesamples.kinds import is_number
from samesamples.ringkinds import are_wires, is_for_each
from samesamples.rings import is_ring


def lets_buffer(names, wires, thing):
    """The greatest buffer, if thing is a triple that greatest_buffer may tell."""
    demand(are_wires(names, wires), "wires")
    insist(isinstance(thing, tuple) and len(thing) == 3, "shape", -1)
    greatest, order, ring = thing
    insist(greatest is None or is_number(greatest), "greatest", -1)
    insist(_is_order(names, order), "order", -1)
    at_place = {name: at for at, name in enumerate(order)}
    for at, (source, name, delay) in enumerate(wires):
        short = greatest is None or delay < greatest
        insist(not short or at_place[source] < at_place[name], "wire", at)
    insist(_fits(wires, greatest, ring), "ring", -1)
    return greatest


def _is_order(names, thing):
    """Whether thing is a tuple of all names, each once."""
    if not is_for_each(names, thing) or not all(isinstance(name, str) for name in thing):
        return False
    return tuple(sorted(thing)) == names


def _fits(wires, greatest, ring):
    """Whether ring is one of wires of delays of at most greatest; None if that is None."""
    if greatest is None:
        return ring is None
    return is_ring(wires, ring) and all([wires[place][2] <= greatest for place in ring])
