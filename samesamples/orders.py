"""Orders of names along wires of delay 0, and whether short wires lead round."""

from samesamples.demands import demand
from samesamples.kinds import is_number
from samesamples.ringkinds import are_wires
from samesamples.rings import order_up_to, ring_up_to


def order_of(names, wires):
    """All names, the least one first whose sources by wires of delay 0 are ahead; or any ring of such wires."""
    demand(are_wires(names, wires), "wires")
    ring = ring_up_to(names, wires, 0)
    if ring is not None:
        return "ring", ring
    return "order", order_up_to(names, wires, 0)


def wires_round(names, wires, most):
    """Whether wires of delays of at most most have a ring."""
    demand(are_wires(names, wires), "wires")
    demand(is_number(most), "most")
    return ring_up_to(names, wires, most) is not None
