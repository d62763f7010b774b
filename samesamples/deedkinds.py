"""What deeds are."""

from samesamples.boxkinds import kind_names
from samesamples.kinds import is_name, is_number
from samesamples.knobkinds import is_knobs
from samesamples.projectkinds import is_box, is_delay
from samesamples.scorekinds import is_score

_MOST_DEEDS = 24


def is_deed(thing):
    """Whether thing is a deed, whether or not it can be done."""
    if isinstance(thing, tuple) and len(thing) == 2 and thing[0] == "all":
        return isinstance(thing[1], tuple) and len(thing[1]) <= _MOST_DEEDS and all(_is_plain(one) for one in thing[1])
    return _is_plain(thing)


def _is_plain(thing):
    """Whether thing is a deed that holds no others."""
    if not isinstance(thing, tuple) or len(thing) < 2 or not isinstance(thing[0], str) or not is_name(thing[1]):
        return False
    word, rest = thing[0], thing[2:]
    if word not in _IS_REST:
        return False
    is_rest = _IS_REST[word]
    return is_rest(rest)


def _is_nothing(rest):
    return rest == ()


def _is_put(rest):
    return len(rest) == 3 and is_box((rest[0], 0, rest[1], rest[2]))


def _is_knobs(rest):
    return len(rest) == 1 and any([is_knobs(kind, rest[0]) for kind in kind_names()])


def _is_wire(rest):
    return len(rest) == 3 and is_number(rest[0]) and is_name(rest[1]) and is_delay(rest[2])


def _is_loose(rest):
    return len(rest) == 1 and is_number(rest[0])


def _is_score(rest):
    return len(rest) == 1 and is_score(rest[0])


# What stands behind the word and the name of a deed.
_IS_REST = {
    "put": _is_put,
    "off": _is_nothing,
    "knobs": _is_knobs,
    "wire": _is_wire,
    "loose": _is_loose,
    "anew": _is_nothing,
    "score": _is_score,
    "noscore": _is_nothing,
}
