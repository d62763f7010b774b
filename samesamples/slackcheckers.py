"""The checker of the least total of slack."""

from samesamples.demands import demand, insist
from samesamples.kinds import is_integer, is_number
from samesamples.ringkinds import is_for_each
from samesamples.slacks import are_weighted, balance_of, slack_of


def lets_slack(names, arrows, thing):
    """The total, if thing is a triple (heights, flow, total) that least_slack may tell."""
    demand(are_weighted(names, arrows), "arrows")
    insist(_has_shape(names, arrows, thing), "shape", -1)
    heights, flow, total = thing
    for at, height in enumerate(heights):
        insist(is_integer(height), "height", at)
    tops = dict(zip(names, heights))
    for at, arrow in enumerate(arrows):
        insist(slack_of(tops, arrow) >= 0, "arrow", at)
    for at, amount in enumerate(flow):
        insist(is_number(amount), "flow", at)
    round_about = balance_of(names, arrows, [amount - arrow[3] for amount, arrow in zip(flow, arrows)])
    for at, name in enumerate(names):
        insist(round_about[name] == 0, "round", at)
    for at, arrow in enumerate(arrows):
        insist(flow[at] == 0 or slack_of(tops, arrow) == 0, "slack", at)
    told = sum([arrow[3] * slack_of(tops, arrow) for arrow in arrows])
    insist(is_integer(total) and total == told, "total", -1)
    return total


def _has_shape(names, arrows, thing):
    if not isinstance(thing, tuple) or len(thing) != 3:
        return False
    return is_for_each(names, thing[0]) and is_for_each(arrows, thing[1])
