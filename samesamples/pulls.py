"""Pulls: to hear further samples, just what they need is worked out."""

from samesamples.aheads import demand_given, demand_no_slips, work_up_to
from samesamples.demands import demand
from samesamples.enginekinds import is_size
from samesamples.errors import TooFar
from samesamples.kinds import LAST
from samesamples.needs import needs_by


def pull(engine, many):
    """What the ears tell at the next many samples, worked out as far as that needs."""
    demand(is_size(many), "many")
    demand_no_slips(engine)
    until = engine.heard() + many
    if until > LAST:
        raise TooFar(until)
    needs = needs_by(engine.course(), dict(engine.fronts()), engine.ears(), until)
    demand_given(engine, needs)
    work_up_to(engine, needs)
    return engine.hear(many)
