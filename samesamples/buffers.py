"""The greatest buffer: how many samples all names can go on by, one after the other."""

from samesamples.demands import demand
from samesamples.ringkinds import are_wires
from samesamples.rings import order_up_to, ring_up_to


def greatest_buffer(names, wires):
    """The triple (greatest, order, ring): order along the short wires, ring of wires that are not longer."""
    demand(are_wires(names, wires), "wires")
    delays = sorted(set([delay for _, _, delay in wires]))
    for delay in delays:
        ring = ring_up_to(names, wires, delay)
        if ring is not None:
            return delay, order_up_to(names, wires, delay - 1), ring
    return None, order_up_to(names, wires, max(delays, default=0)), None
