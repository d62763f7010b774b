"""The lags with which lines hold least, found as heights with the least slack, and shown by a flow."""

from samesamples.demands import demand, insist
from samesamples.kinds import is_integer, is_number
from samesamples.linekinds import are_ears_of, are_let_lags, latenesses
from samesamples.lines import demand_lines, lengths_by, sum_of
from samesamples.ringkinds import is_for_each
from samesamples.slacks import balance_of, least_slack, slack_of

_HUB = "+hub"


def line_question(names, wires, feeds, late, ears, lag):
    """The pair (names, arrows) of which least_slack is asked."""
    _demand_all(names, wires, feeds, late, ears, lag)
    return _question(names, wires, feeds, late, ears, lag)


def least_lines(names, wires, feeds, late, ears, lag):
    """("lines", lags, flow, total) with the least total that is held; or ("ring", ring) of the question's arrows."""
    _demand_all(names, wires, feeds, late, ears, lag)
    asked, arrows = _question(names, wires, feeds, late, ears, lag)
    told = least_slack(asked, arrows)
    if told[0] == "ring":
        return told
    _, heights, flow, total = told
    tops = dict(zip(asked, heights))
    return "lines", tuple([tops[_HUB] - tops[name] for name in names]), flow, total


def lets_lines(names, wires, feeds, late, ears, lag, thing):
    """The total, if thing is a triple (lags, flow, total) that least_lines may tell."""
    _demand_all(names, wires, feeds, late, ears, lag)
    insist(isinstance(thing, tuple) and len(thing) == 3, "shape", -1)
    lags, flow, total = thing
    insist(are_let_lags(names, wires, late, lags) and _are_heard(names, lags, ears, lag), "lags", -1)
    lengths = lengths_by(names, wires, feeds, late, lags)
    asked, arrows = _question(names, wires, feeds, late, ears, lag)
    insist(_is_flow(asked, arrows, _heights(names, lags, lengths), flow), "flow", -1)
    insist(is_integer(total) and total == sum_of(lengths), "total", -1)
    return total


def _demand_all(names, wires, feeds, late, ears, lag):
    demand_lines(names, wires, feeds, late)
    demand(are_ears_of(names, ears), "ears")
    demand(is_number(lag), "lag")


def _question(names, wires, feeds, late, ears, lag):
    lates = latenesses(names, late)
    sources = sorted(set([source for source, _, _ in wires]))
    channels = sorted(set([channel for _, channel in feeds]))
    ends = [_end_of(source) for source in sources]
    asked = sorted([_HUB] + ends + [_in_of(channel) for channel in channels] + list(names))
    arrows = [(_HUB, name, -lates[name], 0) for name in names]
    for ear in ears:
        arrows += [(_HUB, ear, -lag, 0), (ear, _HUB, lag, 0)]
    for source, name, delay in wires:
        arrows += [(source, name, delay - lates[name], 0), (name, _end_of(source), lates[name] - delay, 0)]
    arrows += [(source, _end_of(source), 0, 1) for source in sources]
    for channel in channels:
        arrows.append((_HUB, _in_of(channel), 0, 1))
        arrows += [(name, _in_of(channel), lates[name], 0) for name, its in feeds if its == channel]
    return tuple(asked), tuple(arrows)


def _end_of(source):
    """What the question calls the end of the source's line."""
    return f"+end {source}"


def _in_of(channel):
    """What the question calls the channel's line."""
    return f"+in {channel}"


def _are_heard(names, lags, ears, lag):
    """Whether each ear has this lag."""
    told = dict(zip(names, lags))
    return all([told[ear] == lag for ear in ears])


def _heights(names, lags, lengths):
    """By what the question names the heights that these lags and lengths stand for."""
    told = dict(zip(names, lags))
    heights = {name: -told[name] for name in names}
    heights[_HUB] = 0
    for source, length in lengths[0]:
        heights[_end_of(source)] = -(told[source] + length)
    for channel, length in lengths[1]:
        heights[_in_of(channel)] = -length
    return heights


def _is_flow(asked, arrows, heights, thing):
    """Whether thing is a flow of the question that is above 0 only where there is no slack."""
    if not is_for_each(arrows, thing) or not all(is_number(amount) for amount in thing):
        return False
    if not all([amount == 0 or slack_of(heights, arrow) == 0 for amount, arrow in zip(thing, arrows)]):
        return False
    balance = balance_of(asked, arrows, [amount - arrow[3] for amount, arrow in zip(thing, arrows)])
    return all([balance[name] == 0 for name in asked])
