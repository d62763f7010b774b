"""The greatest heights below a roof, the rings that leave none, and the ways that lead to them."""

from samesamples.demands import demand
from samesamples.ringkinds import are_arrows, are_wires, is_among, is_roof
from samesamples.rings import ring_back, way_back


def ring_sum(names, arrows, roof):
    """The greatest heights that meet roof and arrows, or any ring with a sum below 0 behind a rooted name."""
    _demand_both(names, arrows, roof)
    heights, _, ring = fallen(names, arrows, roof)
    if ring is not None:
        return "ring", ring
    return "heights", tuple([heights[name] for name in names])


def height_ways(names, arrows, roof):
    """For each name a way by which its height comes from a roof; or a ring as ring_sum tells it."""
    _demand_both(names, arrows, roof)
    heights, came, ring = fallen(names, arrows, roof)
    if ring is not None:
        return "ring", ring
    ways = [None if heights[name] is None else way_back(arrows, came, name) for name in names]
    return "ways", tuple(ways)


def least_ways(names, wires, name):
    """For each name the least sum of a way to it from this one, None without a way."""
    demand(are_wires(names, wires), "wires")
    demand(is_among(names, name), "name")
    heights, _, _ = fallen(names, wires, tuple([0 if one == name else None for one in names]))
    return tuple([heights[one] for one in names])


def fallen(names, arrows, roof):
    """By name the heights, fallen from the roof along the arrows, and the places of the arrows to them; and a ring.

    The ring is None if heights are reached that fall no further. A place is None where the height is the roof's.
    """
    heights = dict(zip(names, roof))
    came = {name: None for name in names}
    last = None
    for _ in names:
        last = _fall_once(arrows, heights, came)
        if last is None:
            break
    # Without a ring below 0 a height has come by fewer arrows than there are names.
    return heights, came, None if last is None else ring_back(arrows, came, last)


def _fall_once(arrows, heights, came):
    """Let heights fall along each arrow once; the name whose height fell last, or None."""
    last = None
    for place, arrow in enumerate(arrows):
        source, name, much = arrow[:3]
        height = heights[source]
        if height is not None and (heights[name] is None or height + much < heights[name]):
            heights[name] = height + much
            came[name] = place
            last = name
    return last


def _demand_both(names, arrows, roof):
    demand(are_arrows(names, arrows), "arrows")
    demand(is_roof(names, roof), "roof")
