"""Values: what can be written as a text and read again."""

from samesamples.kinds import is_integer

DEEPEST = 30

_SIGNS = "abcdefghijklmnopqrstuvwxyzABCDEFGHIJKLMNOPQRSTUVWXYZ0123456789 \n.,:!@+-*/()[]#"


def is_value(thing):
    """Whether thing is None, True, False, an integer, a string or a tuple, as a text can hold it."""
    return _is_value(thing, 1)


def is_writable(text):
    """Whether each sign of the string may stand in a value."""
    return all(sign in _SIGNS for sign in text)


def is_short(number):
    """Whether the integer has at most sixty figures."""
    return abs(number) < 10 ** 60


def _is_value(thing, depth):
    if thing is None or isinstance(thing, bool):
        return True
    if is_integer(thing):
        return is_short(thing)
    if isinstance(thing, str):
        return is_writable(thing)
    return isinstance(thing, tuple) and depth <= DEEPEST and all(_is_value(item, depth + 1) for item in thing)
