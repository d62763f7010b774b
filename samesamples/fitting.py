"""Whether a table of worths and states is a run."""

from samesamples.demands import demand
from samesamples.histories import is_entries
from samesamples.kinds import LAST, alike, is_given
from samesamples.runs import run_of


def is_run(project, entries, given, thing):
    """Whether each worth and state of the table is that of one step from its own neighbours."""
    demand(is_entries(entries), "entries")
    demand(is_given(given), "given")
    if not isinstance(thing, tuple) or len(thing) != 3:
        return False
    goal = _goal_of(thing[1])
    # Each place hangs on earlier ones alone, so there is but one such table for each goal: the run.
    return goal <= LAST and alike(thing, run_of(project, entries, given, goal))


def _goal_of(worths):
    """The only goal that a table with these worths can have."""
    if isinstance(worths, tuple) and worths != () and isinstance(worths[0], tuple):
        return len(worths[0])
    return 0
