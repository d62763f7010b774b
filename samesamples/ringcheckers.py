"""Checkers of heights, rings below 0, and ways."""

from samesamples.demands import demand, insist
from samesamples.kinds import is_integer
from samesamples.ringkinds import are_arrows, is_for_each, is_roof
from samesamples.rings import is_place, is_way, way_sum
from samesamples.ringsums import fallen


def lets_heights(names, arrows, roof, thing):
    """How many heights are not None, if thing is heights that meet roof and arrows."""
    _demand_both(names, arrows, roof)
    insist(is_for_each(names, thing), "shape", -1)
    for at, height in enumerate(thing):
        insist(height is None or is_integer(height), "height", at)
    _insist_on_roof(roof, thing, "roof")
    _insist_on_arrows(names, arrows, thing)
    return len([height for height in thing if height is not None])


def lets_ring(names, arrows, roof, thing):
    """The sum, if thing is a ring with a sum below 0 to which a way leads from a rooted name."""
    _demand_both(names, arrows, roof)
    insist(isinstance(thing, tuple) and thing != (), "shape", -1)
    for at, place in enumerate(thing):
        insist(is_place(arrows, place), "place", at)
    for at, (place, later) in enumerate(zip(thing, thing[1:] + thing[:1])):
        insist(arrows[place][1] == arrows[later][0], "next", at)
    ahead = {}
    for at, place in enumerate(thing):
        insist(arrows[place][0] not in ahead, "twice", at)
        ahead[arrows[place][0]] = True
    total = way_sum(arrows, thing)
    insist(total < 0, "sum", -1)
    insist(arrows[thing[0]][0] in _names_behind(names, arrows, roof), "roof", -1)
    return total


def lets_ways(names, arrows, roof, thing):
    """The heights to which the ways lead, if thing is ways to the greatest heights."""
    _demand_both(names, arrows, roof)
    insist(is_for_each(names, thing), "shape", -1)
    roofs = dict(zip(names, roof))
    for at, way in enumerate(thing):
        insist(way is None or _is_rooted(arrows, roofs, way, names[at]), "way", at)
    heights = tuple([_height_of(arrows, roofs, way, name) for name, way in zip(names, thing)])
    _insist_on_roof(roof, heights, "arrow")
    _insist_on_arrows(names, arrows, heights)
    return heights


def _insist_on_roof(roof, heights, word):
    """No height is above its roof; an entry of another word than the roof's own is told at no place."""
    for at, (top, height) in enumerate(zip(roof, heights)):
        holds = top is None or (height is not None and height <= top)
        insist(holds, word, at if word == "roof" else -1)


def _insist_on_arrows(names, arrows, heights):
    """No height is above that of an arrow's source plus much."""
    tops = dict(zip(names, heights))
    for at, (source, name, much) in enumerate(arrows):
        high, low = tops[source], tops[name]
        insist(high is None or (low is not None and low <= high + much), "arrow", at)


def _is_rooted(arrows, roofs, thing, name):
    """Whether thing is a way to name from a name whose roof is an integer."""
    if not is_way(arrows, thing):
        return False
    return _end(arrows, thing, name) == name and roofs[_source(arrows, thing, name)] is not None


def _height_of(arrows, roofs, way, name):
    return None if way is None else roofs[_source(arrows, way, name)] + way_sum(arrows, way)


def _source(arrows, way, name):
    """Where the way begins; () begins at name."""
    return arrows[way[0]][0] if way else name


def _end(arrows, way, name):
    """Where the way ends; () ends at name."""
    return arrows[way[-1]][1] if way else name


def _names_behind(names, arrows, roof):
    """The names to which a way leads from a rooted name, each as a key."""
    flat = [(source, name, 0) for source, name, _ in arrows]
    heights, _, _ = fallen(names, flat, [None if top is None else 0 for top in roof])
    return {name: True for name in names if heights[name] is not None}


def _demand_both(names, arrows, roof):
    demand(are_arrows(names, arrows), "arrows")
    demand(is_roof(names, roof), "roof")
