"""Rows, and the texts that they make up."""

from samesamples.demands import demand
from samesamples.kinds import is_text


def whole_rows(text):
    """The rows of the text that are ended by a newline."""
    demand(is_text(text), "text")
    return tuple(text.split("\n")[:-1])


def is_row(thing):
    """Whether thing is a string of plain characters without newlines."""
    return is_text(thing) and "\n" not in thing
