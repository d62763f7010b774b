"""The texts of values."""

from samesamples.demands import demand
from samesamples.values import is_value


def text_of(value):
    """The one text of value."""
    demand(is_value(value), "value")
    return _written(value)


def _written(value):
    if value is None:
        return "n"
    if value is True:
        return "t"
    if value is False:
        return "f"
    if isinstance(value, int):
        return f"i{value};"
    if isinstance(value, str):
        return "s" + value.replace("\n", "|") + ";"
    return "(" + "".join([_written(item) for item in value]) + ")"
