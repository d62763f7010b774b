"""Lags: how much later than its samples each name tells them, so that late names and wires fit."""

from samesamples.demands import demand
from samesamples.linekinds import are_let_lags, is_late, latenesses
from samesamples.ringkinds import are_wires
from samesamples.ringsums import fallen


def least_lags(names, wires, late):
    """The let lags that are least for all names at once; or any ring of wires with too little delay."""
    _demand_both(names, wires, late)
    lates = latenesses(names, late)
    # Lags are heights upside down: they fall below the latenesses, and along each wire by its delay less lateness.
    arrows = [(source, name, delay - lates[name]) for source, name, delay in wires]
    heights, _, ring = fallen(names, arrows, [-lates[name] for name in names])
    if ring is not None:
        return "ring", ring
    return "lags", tuple([-heights[name] for name in names])


def are_lags(names, wires, late, thing):
    """Whether thing is let lags."""
    _demand_both(names, wires, late)
    return are_let_lags(names, wires, late, thing)


def _demand_both(names, wires, late):
    demand(are_wires(names, wires), "wires")
    demand(is_late(names, late), "late")
