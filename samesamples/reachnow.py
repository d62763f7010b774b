"""How far the names of an engine can go as things stand."""

from samesamples.demands import demand
from samesamples.enginekinds import are_all_names
from samesamples.kinds import is_goal
from samesamples.reaches import reach_by
from samesamples.saves import ends_of


def reach_now(engine, still, goal):
    """The ascending pairs (name, reach) of the engine's names; slips that are not struck count as worked."""
    demand(are_all_names(still), "still")
    demand(is_goal(goal), "goal")
    ends = ends_of(engine.fronts(), engine.busy())
    # Names that never stand are asked for by their fronts, too.
    fronts = {name: ends.get(name, 0) for name in engine.names()}
    return reach_by(engine.course(), fronts, still, engine.amounts(), goal)
