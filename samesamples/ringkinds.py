"""What the questions about rings are asked of: names, arrows, wires, roofs."""

from samesamples.kinds import is_integer, is_number

_MOST_NAMES = 64
_LONGEST_NAME = 20


def are_names(thing):
    """Whether thing is an ascending tuple of at most sixty-four short strings."""
    if not isinstance(thing, tuple) or len(thing) > _MOST_NAMES:
        return False
    if not all(isinstance(name, str) and len(name) <= _LONGEST_NAME for name in thing):
        return False
    return all(name < later for name, later in zip(thing, thing[1:]))


def are_arrows(names, thing):
    """Whether thing is a tuple of triples (source, name, much) between the names."""
    return are_leading(names, thing, 3) and all(is_integer(arrow[2]) for arrow in thing)


def are_wires(names, thing):
    """Whether thing is a tuple of triples (source, name, delay) between the names."""
    return are_leading(names, thing, 3) and all(is_number(wire[2]) for wire in thing)


def is_roof(names, thing):
    """Whether thing is a tuple with an integer or None for each name."""
    return is_for_each(names, thing) and all(height is None or is_integer(height) for height in thing)


def are_leading(names, thing, many):
    """Whether thing is a tuple of tuples of so many items, each from one of the names to one of them."""
    if not isinstance(thing, tuple) or not all(isinstance(one, tuple) and len(one) == many for one in thing):
        return False
    return all(is_among(names, one[0]) and is_among(names, one[1]) for one in thing)


def is_among(names, thing):
    """Whether thing is one of the names."""
    return isinstance(thing, str) and thing in names


def is_for_each(things, thing):
    """Whether thing is a tuple with one item for each of the things."""
    return isinstance(thing, tuple) and len(thing) == len(things)
