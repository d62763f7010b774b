"""Values read from their texts."""

from samesamples.demands import demand
from samesamples.errors import BadText
from samesamples.kinds import is_text
from samesamples.values import DEEPEST, is_writable
from samesamples.writtens import integer_written


def value_of(text):
    """The value whose text this is."""
    demand(is_text(text), "text")
    levels = []
    at = 0
    while at < len(text):
        if text[at] == "(":
            if len(levels) == DEEPEST:
                raise BadText(0)
            levels.append([])
            at += 1
            continue
        if text[at] == ")":
            if not levels:
                raise BadText(0)
            value = tuple(levels.pop())
            at += 1
        else:
            value, at = _plain_value(text, at)
        if not levels:
            return _whole(value, text, at)
        levels[-1].append(value)
    raise BadText(0)


def _whole(value, text, end):
    """The value, if its text ends where text does."""
    if end != len(text):
        raise BadText(0)
    return value


def _plain_value(text, at):
    """The value written at this place, which is no tuple, and where its text ends."""
    sign = text[at]
    if sign == "n":
        return None, at + 1
    if sign == "t" or sign == "f":
        return sign == "t", at + 1
    end = text.find(";", at)
    if sign == "i" and end >= 0:
        return _integer(text[at + 1:end]), end + 1
    if sign == "s" and end >= 0:
        return _string(text[at + 1:end]), end + 1
    raise BadText(0)


def _integer(word):
    integer = integer_written(word)
    if integer is None:
        raise BadText(0)
    return integer


def _string(word):
    string = word.replace("|", "\n")
    # A newline is written as a stroke, so one that stands in the text itself is none's.
    if "\n" in word or not is_writable(string):
        raise BadText(0)
    return string
