"""Commands: rows read as words of their kinds."""

from samesamples.journals import is_row
from samesamples.writtens import integer_written

# What stands behind the first word of a command; "some" reads all words that are left as one kind.
_SHAPES = {
    "new": ("names", "word"),
    "load": ("word",),
    "give": ("integer", "some", "integer"),
    "shut": ("integer",),
    "begin": ("integer", "name", "integer"),
    "end": ("integer",),
    "drop": ("integer",),
    "change": ("integer", "word"),
    "undo": ("integer",),
    "redo": ("integer",),
    "hear": ("integer",),
    "pull": ("integer",),
    "work": ("integer", "integer", "integers", "integers"),
    "ahead": ("name", "integer"),
    "reach": ("integer", "some", "name"),
    "rounds": ("some", "integer"),
    "front": ("name",),
    "buffer": (),
    "names": (),
    "busy": (),
    "seal": (),
    "save": (),
    "show": ("integer",),
    "sleeping": ("integer",),
    "lags": ("some", "pair"),
}


def is_command(row):
    """Whether row is a row with the words of a command."""
    return command_of(row) is not None


def command_of(row):
    """The first word of the command and the list of what its other words are read as; None if row is none."""
    if not is_row(row):
        return None
    words = row.split(" ")
    if words[0] not in _SHAPES or "" in words:
        return None
    read = _read_all(_SHAPES[words[0]], words[1:])
    return None if read is None else (words[0], read)


def _read_all(shape, words):
    """What the words are read as by the shape, or None; "some" gives a tuple."""
    if "some" in shape:
        first = shape.index("some")
        ahead, left = _read_each(shape[:first], words[:first]), words[first:]
        some = _read_each(shape[-1:] * len(left), left)
        return None if ahead is None or some is None else ahead + [tuple(some)]
    return _read_each(shape, words)


def _read_each(kinds, words):
    """What each word is read as by its kind; None if one cannot be, or there are more or less of them."""
    if len(kinds) != len(words):
        return None
    read = [_read(kind, word) for kind, word in zip(kinds, words)]
    return None if None in read else read


def _read(kind, word):
    reading = _READINGS[kind]
    return reading(word)


def _integer(word):
    return integer_written(word)


def _name(word):
    return None if word == "" or "," in word or ":" in word else word


def _word(word):
    return word


def _names(word):
    names = [_name(part) for part in word.split(",")]
    return None if None in names else tuple(names)


def _integers(word):
    integers = [_integer(part) for part in word.split(",")]
    return None if None in integers else tuple(integers)


def _pair(word):
    name, _, figures = word.partition(":")
    integer = _integer(figures)
    return None if _name(name) is None or integer is None else (name, integer)


_READINGS = {
    "integer": _integer,
    "name": _name,
    "word": _word,
    "names": _names,
    "integers": _integers,
    "pair": _pair,
}
