"""Sounds as texts of their stretches of equal worths, there and back."""

from samesamples.demands import demand
from samesamples.errors import BadText
from samesamples.kinds import LAST, is_sound, is_text, is_within, is_worth
from samesamples.writtens import integer_written


def show_sound(sound):
    """The text: how long the sound is, and each longest stretch of equal worths."""
    demand(is_sound(sound), "sound")
    return " ".join(["sound", f"{len(sound)}"] + [f"{worth}*{many}" for worth, many in _stretches(sound)])


def read_sound(text):
    """The sound of at most LAST worths whose text this is."""
    demand(is_text(text), "text")
    sound = []
    for word in text.split(" ")[2:]:
        worth, many = _stretch_written(word)
        if len(sound) + many > LAST:
            raise BadText(0)
        sound += [worth] * many
    # Only the one form, with longest stretches and the length that they add up to, is shown again.
    if show_sound(tuple(sound)) != text:
        raise BadText(0)
    return tuple(sound)


def _stretches(sound):
    """The pairs (worth, many) of the longest stretches of equal worths."""
    found = []
    for worth in sound:
        if found and found[-1][0] == worth:
            found[-1] = (worth, found[-1][1] + 1)
        else:
            found.append((worth, 1))
    return found


def _stretch_written(word):
    """The pair (worth, many) that is so written."""
    first, _, second = word.partition("*")
    worth, many = integer_written(first), integer_written(second)
    if not is_worth(worth) or not is_within(many, 1, LAST):
        raise BadText(0)
    return worth, many
