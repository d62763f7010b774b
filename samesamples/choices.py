"""The steps that can be done next on the way to a goal."""

from samesamples.demands import demand
from samesamples.enginekinds import HANDS, are_sizes
from samesamples.kinds import is_goal, is_within


def steps_left(engine, goal, sizes, hands):
    """The steps ("end", hand) and ("begin", hand, name, size), in their sequence."""
    demand(is_goal(goal), "goal")
    demand_workers(sizes, hands)
    busy = engine.busy()
    ends = [("end", hand) for hand, _, _, _, _ in busy]
    free = [hand for hand in range(hands) if ("end", hand) not in ends]
    if not free:
        return tuple(ends)
    taken = [name for _, name, _, _, struck in busy if not struck]
    begins = []
    for name in engine.names():
        if name not in taken:
            begins += [("begin", free[0], name, size) for size in _sizes_ready(engine, name, goal, sizes)]
    return tuple(ends + begins)


def demand_workers(sizes, hands):
    """Refuse what are no sizes of jobs, and what is no number of hands."""
    demand(are_sizes(sizes), "sizes")
    demand(is_within(hands, 1, HANDS), "hands")


def _sizes_ready(engine, name, goal, sizes):
    """The sizes of the jobs of the name that fit below the goal and are ready."""
    front = engine.front(name)
    fitting = [size for size in sizes if front + size <= goal]
    if not fitting:
        return []
    # What keeps the longest job from being ready keeps each that goes so far, and none that ends ahead of it.
    lack = engine.ready(name, fitting[-1])
    return fitting if lack is None else [size for size in fitting if front + size <= lack[0]]
