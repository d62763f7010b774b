"""What items, phrases, voices and scores are."""

from samesamples.kinds import ONE, is_name, is_quotient, is_within
from samesamples.tempos import is_tempo
from samesamples.tunings import is_tuning

_DEEPEST = 8


def is_items(thing):
    """Whether thing is items, whatever names they call."""
    return _are_items(thing, 1)


def is_score(thing):
    """Whether thing is a quadruple of tempo, tuning, phrases and voices."""
    if not isinstance(thing, tuple) or len(thing) != 4:
        return False
    tempo, tuning, phrases, voices = thing
    return is_tempo(tempo) and is_tuning(tuning) and are_phrases(phrases) and are_voices(phrases, voices)


def are_phrases(thing):
    """Whether thing is at most twelve phrases, each calling only those ahead of it."""
    if not _are_parts(thing) or len(thing) > 12:
        return False
    ahead = []
    for name, items in thing:
        if not calls_only(ahead, items):
            return False
        ahead.append(name)
    return True


def are_voices(phrases, thing):
    """Whether thing is one to eight voices that call only these phrases."""
    if not _are_parts(thing) or not 1 <= len(thing) <= 8:
        return False
    names = [name for name, _ in phrases]
    return all([calls_only(names, items) for _, items in thing])


def calls_only(names, items):
    """Whether the items call, at any depth, nothing but these names."""
    for item in items:
        if item[0] == "call" and item[1] not in names:
            return False
        if item[0] in ("times", "by") and not calls_only(names, item[2]):
            return False
    return True


def _are_parts(thing):
    """Whether thing is a tuple of pairs (name, items), no name twice."""
    if not isinstance(thing, tuple) or not all(_is_part(pair) for pair in thing):
        return False
    return len({name for name, _ in thing}) == len(thing)


def _is_part(thing):
    return isinstance(thing, tuple) and len(thing) == 2 and is_name(thing[0]) and is_items(thing[1])


def _are_items(thing, depth):
    """Whether thing is items that stand at this depth."""
    if not isinstance(thing, tuple) or len(thing) > 200:
        return False
    if depth > _DEEPEST:
        return thing == ()
    return all(_is_item(item, depth) for item in thing)


def _is_item(thing, depth):
    if not isinstance(thing, tuple) or len(thing) not in (2, 3):
        return False
    if len(thing) == 2:
        return _is_pair(thing[0], thing[1])
    return _is_triple(thing[0], thing[1], thing[2], depth)


def _is_pair(word, thing):
    if word == "rest":
        return _is_beats(thing)
    return word == "loud" and is_within(thing, 0, ONE)


def _is_triple(word, one, other, depth):
    if word == "note":
        return _is_key(one) and _is_beats(other)
    if word == "call":
        return is_name(one) and _is_key(other)
    if word == "times":
        return is_within(one, 0, 10 ** 9) and _are_items(other, depth + 1)
    return word == "by" and _is_ratio(one) and _are_items(other, depth + 1)


def _is_key(thing):
    return is_within(thing, -60, 60)


def _is_beats(thing):
    return is_quotient(thing) and 1 <= thing[0] <= 4096 and thing[1] <= 64


def _is_ratio(thing):
    return is_quotient(thing) and 1 <= thing[0] <= 16 and thing[1] <= 16
