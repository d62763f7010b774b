"""Lines: how many samples a device with these lags holds."""

from samesamples.demands import demand
from samesamples.linekinds import are_feeds, are_let_lags, is_late, latenesses, pads
from samesamples.ringkinds import are_wires


def line_lengths(names, wires, feeds, late, lags):
    """The pair of the pairs (source, length) and of the pairs (channel, length)."""
    demand_lines(names, wires, feeds, late)
    demand(are_let_lags(names, wires, late, lags), "lags")
    return lengths_by(names, wires, feeds, late, lags)


def total_held(names, wires, feeds, late, lags):
    """The sum of the lengths of all lines."""
    return sum_of(line_lengths(names, wires, feeds, late, lags))


def demand_lines(names, wires, feeds, late):
    """Refuse what are no wires, feeds or latenesses of these names."""
    demand(are_wires(names, wires), "wires")
    demand(are_feeds(names, feeds), "feeds")
    demand(is_late(names, late), "late")


def lengths_by(names, wires, feeds, late, lags):
    """As line_lengths, for what has been looked at."""
    lates, told = latenesses(names, late), dict(zip(names, lags))
    outs, ins = {}, {}
    for (source, _, _), pad in zip(wires, pads(wires, lates, told)):
        outs[source] = max(outs.get(source, 0), pad)
    for name, channel in feeds:
        ins[channel] = max(ins.get(channel, 0), told[name] - lates[name])
    return _ascending(outs), _ascending(ins)


def sum_of(lengths):
    """The sum of the lengths that the pair tells."""
    return sum([length for pairs in lengths for _, length in pairs])


def _ascending(table):
    return tuple([(key, table[key]) for key in sorted(table)])
