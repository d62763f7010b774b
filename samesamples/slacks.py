"""The least total of slack, with the heights that have it and the flow that shows that none have less."""

from samesamples.demands import demand
from samesamples.kinds import is_integer, is_number
from samesamples.ringkinds import are_leading
from samesamples.rings import way_back
from samesamples.ringsums import fallen


def are_weighted(names, thing):
    """Whether thing is a tuple of quadruples (source, name, much, weight) between the names."""
    return are_leading(names, thing, 4) and all(is_integer(arrow[2]) and is_number(arrow[3]) for arrow in thing)


def least_slack(names, arrows):
    """("least", heights, flow, total), or ("ring", ring) with a ring below 0."""
    demand(are_weighted(names, arrows), "arrows")
    ground = [0 for _ in names]
    ring = fallen(names, arrows, ground)[2]
    if ring is not None:
        return "ring", ring
    flow = _least_flow(names, arrows)
    # Heights that meet the arrows both ways wherever there is flow leave no slack there.
    heights = fallen(names, _residue(arrows, flow), ground)[0]
    total = sum([arrow[3] * slack_of(heights, arrow) for arrow in arrows])
    return "least", tuple([heights[name] for name in names]), tuple(flow), total


def slack_of(heights, arrow):
    """By how much the name may still rise, heights being told by name."""
    source, name, much, _ = arrow
    return much + heights[source] - heights[name]


def balance_of(names, arrows, amounts):
    """By name how much more of the amounts leads to it than from it."""
    balance = {name: 0 for name in names}
    for arrow, amount in zip(arrows, amounts):
        balance[arrow[0]] -= amount
        balance[arrow[1]] += amount
    return balance


def _least_flow(names, arrows):
    """The flow of least cost that leads to each name as much more than from it as the weights do."""
    lacks = balance_of(names, arrows, [arrow[3] for arrow in arrows])
    flow = [0 for _ in arrows]
    while any([lacks[name] > 0 for name in names]):
        residue = _residue(arrows, flow)
        _, came, _ = fallen(names, residue, [0 if lacks[name] < 0 else None for name in names])
        # Flow that is sent along a cheapest way never leaves a ring below 0 behind it. As the weights themselves would
        # be such a flow, some way leads to each name that lacks.
        end = min([name for name in names if lacks[name] > 0])
        way = way_back(residue, came, end)
        source = residue[way[0]][0]
        _send(flow, [residue[place] for place in way], min(lacks[end], -lacks[source]))
        lacks = balance_of(names, arrows, [arrow[3] - amount for arrow, amount in zip(arrows, flow)])
    return flow


def _send(flow, way, most):
    """Send along the way as much as it takes back at most, and no more than most."""
    for _, _, _, place, sign in way:
        if sign < 0:
            most = min(most, flow[place])
    for _, _, _, place, sign in way:
        flow[place] += sign * most


def _residue(arrows, flow):
    """Each arrow with its place and 1; and behind them those with flow turned round, with their places and -1."""
    ahead = [(source, name, much, at, 1) for at, (source, name, much, _) in enumerate(arrows)]
    back = [(name, source, -much, at, -1) for at, (source, name, much, _) in enumerate(arrows) if flow[at] > 0]
    return ahead + back
