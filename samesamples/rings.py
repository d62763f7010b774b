"""Ways and rings: tuples of places of arrows or wires, each of which leads from its source to its name."""

from heapq import heappop, heappush

from samesamples.kinds import is_within


def is_place(arrows, thing):
    """Whether thing is the place of an arrow."""
    return is_within(thing, 0, len(arrows) - 1)


def are_places(arrows, thing):
    """Whether thing is a tuple of places of arrows."""
    return isinstance(thing, tuple) and all(is_place(arrows, place) for place in thing)


def is_way(arrows, thing):
    """Whether thing is a tuple of places, each one's name the next one's source."""
    if not are_places(arrows, thing):
        return False
    return all(arrows[place][1] == arrows[later][0] for place, later in zip(thing, thing[1:]))


def is_ring(arrows, thing):
    """Whether thing is a way, not (), from a name to itself, with no source twice."""
    if not is_way(arrows, thing) or thing == ():
        return False
    sources = sorted([arrows[place][0] for place in thing])
    return arrows[thing[-1]][1] == arrows[thing[0]][0] and len(set(sources)) == len(sources)


def way_sum(arrows, way):
    """The sum of the muchs or delays of the way."""
    return sum([arrows[place][2] for place in way])


def order_up_to(names, wires, most):
    """The names in the sequence in which again and again the least one is taken whose sources are all taken.

    Only wires of delays of at most most count. Names on rings, and behind rings, are not taken.
    """
    waits = {name: 0 for name in names}
    leads = {name: [] for name in names}
    for source, name, delay in wires:
        if delay <= most:
            waits[name] += 1
            leads[source].append(name)
    # The names ascend, so this list is a heap from the beginning.
    ready = [name for name in names if waits[name] == 0]
    order = []
    while ready:
        taken = heappop(ready)
        order.append(taken)
        for name in leads[taken]:
            waits[name] -= 1
            if waits[name] == 0:
                heappush(ready, name)
    return tuple(order)


def ring_up_to(names, wires, most):
    """Any ring of wires of delays of at most most; None if there is none."""
    taken = {name: True for name in order_up_to(names, wires, most)}
    left = [name for name in names if name not in taken]
    if not left:
        return None
    came = {}
    for place, (source, name, delay) in enumerate(wires):
        # A name is left only if one of its sources is left, too.
        if delay <= most and source not in taken and name not in taken:
            came[name] = place
    return ring_back(wires, came, left[0])


def ring_back(arrows, came, name):
    """The ring to which the arrows lead back from name; came tells the place of the arrow to a name."""
    for _ in came:
        name = arrows[came[name]][0]
    ring = [came[name]]
    while arrows[ring[-1]][0] != name:
        ring.append(came[arrows[ring[-1]][0]])
    return tuple(ring[::-1])


def way_back(arrows, came, name):
    """The way to name along the arrows that came tells, from where it tells None."""
    way = []
    while came[name] is not None:
        way.append(came[name])
        name = arrows[came[name]][0]
    return tuple(way[::-1])
