"""Which knobs the kinds of boxes have, and between which bounds."""

from samesamples.curves import is_points
from samesamples.kinds import ONE, TOP, is_integer, is_mode, is_name, is_number, is_sound, is_within, is_worth

# What each knob of a kind is, in sequence: a bound that is told for one knob by another one is looked at behind.
_KNOBS = {
    "level": ("worth",),
    "feed": ("channel",),
    "clock": ("height", "height", "height"),
    "noise": ("seed", "height"),
    "wave": ("table", "bent num", "den"),
    "roll": ("sound",),
    "reel": ("sound", "num", "den"),
    "mix": ("mixed weights", "worth"),
    "gain": ("mode",),
    "cross": ("mode",),
    "fence": ("height",),
    "punch": ("height", "height"),
    "latch": (),
    "curve": ("points",),
    "tape": ("sound", "height"),
    "smooth": ("share", "mode"),
    "second": ("weight", "weight", "weight", "weight", "weight", "mode"),
    "taps": ("taps",),
    "press": ("height", "num", "den", "share", "share"),
    "peak": ("many",),
    "mean": ("many",),
    "voices": ("name", "most", "rule", "table", "time", "time"),
}


def is_knobs(kind, thing):
    """Whether thing is a tuple of the knobs of this kind; False if it is no kind."""
    words = knob_words(kind)
    return words is not None and _fits(words, thing)


def is_settled(kind, thing):
    """Whether thing is a tuple of the knobs of a settled box of this kind."""
    words = knob_words(kind)
    if words is None:
        return False
    return _fits(("notes",) + words[1:] if kind == "voices" else words, thing)


def knob_words(kind):
    """What the knobs of this kind are, in words; None if it is no kind."""
    return _KNOBS.get(kind) if isinstance(kind, str) else None


def kinds_told():
    """The names of all kinds."""
    return list(_KNOBS)


def _fits(words, thing):
    if not isinstance(thing, tuple) or len(thing) != len(words):
        return False
    if not all([_is_knob(word, knob) for word, knob in zip(words, thing)]):
        return False
    # The one bound that hangs on another knob: the num of a press is at most its den.
    return words != _KNOBS["press"] or thing[1] <= thing[2]


def _is_knob(word, knob):
    is_one = _IS_ONE[word]
    return is_one(knob)


def is_note(thing):
    """Whether thing is a note of a settled box: onset, length, pitch, loud."""
    if not isinstance(thing, tuple) or len(thing) != 4:
        return False
    onset, length, pitch, loud = thing
    return is_number(onset) and is_integer(length) and length >= 1 and is_pitch(pitch) and is_share(loud)


def is_pitch(thing):
    """Whether thing is a pitch of a note."""
    return is_within(thing, 1, 2 ** 20)


def is_share(thing):
    """Whether thing is a number of at most ONE."""
    return is_within(thing, 0, ONE)


def _is_notes(thing):
    if not isinstance(thing, tuple) or len(thing) > 2000 or not all(is_note(note) for note in thing):
        return False
    return all(note[0] <= later[0] for note, later in zip(thing, thing[1:]))


def _is_worth(thing):
    return is_worth(thing)


def _is_name(thing):
    return is_name(thing)


def _is_mode(thing):
    return is_mode(thing)


def _is_points(thing):
    return is_points(thing)


def _is_channel(thing):
    return is_within(thing, 0, 3)


def _is_height(thing):
    return is_within(thing, 0, TOP)


def _is_seed(thing):
    return is_within(thing, 0, 2 ** 32 - 1)


def _is_table(thing):
    return is_sound(thing) and 1 <= len(thing) <= 64


def _is_sound(thing):
    return is_sound(thing) and len(thing) <= 600


def _is_num(thing):
    return is_within(thing, 0, 2 ** 20)


def _is_bent_num(thing):
    return is_within(thing, -2 ** 20, 2 ** 20)


def _is_den(thing):
    return is_within(thing, 1, 4096)


def _is_weight(thing):
    return is_within(thing, -65536, 65536)


def _are_weights(thing):
    return isinstance(thing, tuple) and all(_is_weight(weight) for weight in thing)


def _is_mixed_weights(thing):
    return _are_weights(thing) and len(thing) <= 8


def _is_taps(thing):
    return _are_weights(thing) and 1 <= len(thing) <= 16


def _is_many(thing):
    return is_within(thing, 1, 256)


def _is_most(thing):
    return is_within(thing, 1, 16)


def _is_rule(thing):
    return isinstance(thing, str) and thing in ("oldest", "softest", "same", "never")


_IS_ONE = {
    "worth": _is_worth,
    "name": _is_name,
    "mode": _is_mode,
    "points": _is_points,
    "notes": _is_notes,
    "share": is_share,
    "channel": _is_channel,
    "height": _is_height,
    "seed": _is_seed,
    "table": _is_table,
    "sound": _is_sound,
    "num": _is_num,
    "bent num": _is_bent_num,
    "den": _is_den,
    "weight": _is_weight,
    "mixed weights": _is_mixed_weights,
    "taps": _is_taps,
    "many": _is_many,
    "most": _is_most,
    "rule": _is_rule,
    "time": _is_den,
}
