"""Workings: an engine is driven to a goal by steps that are picked one after another."""

from samesamples.choices import demand_workers, steps_left
from samesamples.demands import demand
from samesamples.kinds import is_goal, is_number


def worked(engine, goal, picks, sizes, hands):
    """Do steps until none is left; returns how many jobs were begun."""
    demand(is_goal(goal), "goal")
    demand(_are_picks(picks), "picks")
    demand_workers(sizes, hands)
    jobs = 0
    done = 0
    steps = steps_left(engine, goal, sizes, hands)
    while steps:
        step = steps[picks[done % len(picks)] % len(steps)]
        if step[0] == "begin":
            engine.begin(step[1], step[2], step[3])
            jobs += 1
        else:
            engine.end(step[1])
        done += 1
        steps = steps_left(engine, goal, sizes, hands)
    return jobs


def _are_picks(thing):
    return isinstance(thing, tuple) and thing != () and all(is_number(pick) for pick in thing)
