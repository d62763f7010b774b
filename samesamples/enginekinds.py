"""What engines and the functions around them are passed: ears, hands, sizes of jobs, fronts, spans."""

from samesamples.kinds import CHANNELS, is_goal, is_name, is_number, is_within

HANDS = 16
LONGEST = 2048

_MOST_EARS = 4


def are_ears(thing):
    """Whether thing is a tuple of one to four unlike names."""
    return are_all_names(thing) and 1 <= len(thing) <= _MOST_EARS and len(set(thing)) == len(thing)


def are_all_names(thing):
    """Whether thing is a tuple of names, in any sequence, equal ones too."""
    return isinstance(thing, tuple) and all(is_name(name) for name in thing)


def is_hand(thing):
    """Whether thing is the number of a hand."""
    return is_within(thing, 0, HANDS - 1)


def is_channel(thing):
    """Whether thing is the number of a channel."""
    return is_within(thing, 0, CHANNELS - 1)


def is_size(thing):
    """Whether thing is how many samples a job may have."""
    return is_within(thing, 1, LONGEST)


def are_sizes(thing):
    """Whether thing is a rising tuple of sizes that begins with 1."""
    if not isinstance(thing, tuple) or thing == () or not all(is_size(size) for size in thing):
        return False
    return thing[0] == 1 and is_rising(thing)


def is_rising(thing):
    """Whether each integer of the tuple is above the one ahead of it."""
    return all(one < later for one, later in zip(thing, thing[1:]))


def are_fronts(thing):
    """Whether thing is an ascending tuple of pairs (name, number), no name twice."""
    if not isinstance(thing, tuple) or not all(isinstance(pair, tuple) and len(pair) == 2 for pair in thing):
        return False
    if not all(is_name(name) and is_number(front) for name, front in thing):
        return False
    return is_rising([name for name, _ in thing])


def are_spans(thing):
    """Whether thing is a tuple of triples (name, low, high), low at most high."""
    if not isinstance(thing, tuple) or not all(isinstance(one, tuple) and len(one) == 3 for one in thing):
        return False
    return all(is_name(name) and is_stretch(low, high) for name, low, high in thing)


def is_stretch(low, high):
    """Whether low is a number and high one that is not below it."""
    return is_number(low) and is_number(high) and low <= high


def are_cuts(thing, front):
    """Whether thing is a rising tuple of numbers, not (), each one a job's length at most behind the one ahead.

    The first one is so behind front; the last one is not above LAST.
    """
    if not isinstance(thing, tuple) or thing == () or not all(is_goal(cut) for cut in thing):
        return False
    return all(is_size(cut - ahead) for ahead, cut in zip((front,) + thing, thing))
