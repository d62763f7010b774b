"""What the questions about lags and lines are asked of: latenesses, feeds, ears, lags."""

from samesamples.enginekinds import are_ears, is_channel, is_rising
from samesamples.kinds import is_number, is_within
from samesamples.ringkinds import is_among, is_for_each

_LATEST = 255


def is_late(names, thing):
    """Whether thing is an ascending tuple of pairs (name, lateness), no name twice."""
    if not _are_told_of(names, thing) or not all(is_within(lateness, 1, _LATEST) for _, lateness in thing):
        return False
    return is_rising([name for name, _ in thing])


def are_feeds(names, thing):
    """Whether thing is an ascending tuple of pairs (name, channel)."""
    return _are_told_of(names, thing) and all(is_channel(channel) for _, channel in thing) and is_rising(thing)


def are_ears_of(names, thing):
    """Whether thing is ears that are among the names."""
    return are_ears(thing) and all(ear in names for ear in thing)


def latenesses(names, late):
    """By name the lateness; 0 for the names that are not told."""
    told = dict(late)
    return {name: told.get(name, 0) for name in names}


def are_let_lags(names, wires, late, thing):
    """Whether thing is lags, each at least its name's lateness, by which no wire's pad is below 0."""
    if not is_for_each(names, thing) or not all(is_number(lag) for lag in thing):
        return False
    lates, lags = latenesses(names, late), dict(zip(names, thing))
    return all([lags[name] >= lates[name] for name in names]) and all([pad >= 0 for pad in pads(wires, lates, lags)])


def pads(wires, lates, lags):
    """The pads of the wires, latenesses and lags being told by name."""
    return [delay + lags[name] - lates[name] - lags[source] for source, name, delay in wires]


def _are_told_of(names, thing):
    """Whether thing is a tuple of pairs of one of the names and something."""
    if not isinstance(thing, tuple) or not all(isinstance(pair, tuple) and len(pair) == 2 for pair in thing):
        return False
    return all(is_among(names, pair[0]) for pair in thing)
