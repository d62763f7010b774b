"""How far an engine must work for a name to go on, and just so far that it works."""

from samesamples.demands import demand
from samesamples.errors import HandBusy, NoName, NotGiven
from samesamples.kinds import is_goal, is_name
from samesamples.needs import channels_by, needs_by


def needed_now(engine, name, until):
    """The pairs (name, need) for the name to come to until."""
    demand(is_name(name), "name")
    demand(is_goal(until), "until")
    if name not in engine.names():
        raise NoName(name)
    return needs_by(engine.course(), dict(engine.fronts()), (name,), until)


def go_ahead(engine, name, until):
    """Work out just what the name needs to come to until; returns the pairs (name, need)."""
    needs = needed_now(engine, name, until)
    demand_no_slips(engine)
    demand_given(engine, needs)
    work_up_to(engine, needs)
    return needs


def demand_no_slips(engine):
    """Refuse an engine with a hand that is busy."""
    busy = engine.busy()
    if busy:
        raise HandBusy(busy[0][0])


def demand_given(engine, needs):
    """Refuse an engine whose channels lack what the feeds ask for, from each name's front up to its need."""
    spans = [(name, engine.front(name), need) for name, need in needs]
    asked = channels_by(engine.course(), spans)
    for channel, (many, has) in enumerate(zip(asked, engine.amounts())):
        if has is not None and has < many:
            raise NotGiven(channel, many)


def work_up_to(engine, needs):
    """Work out the places from each name's front up to its need, by jobs of one sample."""
    goals = dict(needs)
    least = min([engine.front(name) for name in goals], default=0)
    for segment, start, end in engine.course().spans(least, max(goals.values(), default=0)):
        # Where a name does not stand its places are ready at once.
        away = [name for name in goals if name not in segment.boxes]
        line = away + [name for name in segment.order if name in goals]
        for sample in range(start, end):
            for name in line:
                if engine.front(name) <= sample < goals[name]:
                    engine.begin(0, name, 1)
                    engine.end(0)
