"""The kinds of plain values: integers, names, worths, sounds, quotients, modes, texts."""

from math import gcd

TOP = 1048575
ONE = 4096
LAST = 20000
CHANNELS = 4

_LETTERS = "abcdefghijklmnopqrstuvwxyz"
_FIGURES = "0123456789"


def is_integer(thing):
    """Whether thing is an integer; True is none."""
    return isinstance(thing, int) and not isinstance(thing, bool)


def is_within(thing, low, high):
    """Whether thing is an integer from low to high, both included."""
    return is_integer(thing) and low <= thing <= high


def is_number(thing):
    """Whether thing is an integer of at least 0."""
    return is_integer(thing) and thing >= 0


def is_name(thing):
    """Whether thing is a string of 1 to 12 small letters and figures, a letter first."""
    if not isinstance(thing, str) or not 1 <= len(thing) <= 12:
        return False
    return thing[0] in _LETTERS and all(sign in _LETTERS or sign in _FIGURES for sign in thing)


def is_figures(thing):
    """Whether thing is a string of at least one figure, and of nothing else."""
    return isinstance(thing, str) and thing != "" and all(sign in _FIGURES for sign in thing)


def is_worth(thing):
    """Whether thing is an integer from -TOP to TOP."""
    return is_within(thing, -TOP, TOP)


def is_sound(thing):
    """Whether thing is a tuple of worths, of any length."""
    return isinstance(thing, tuple) and all(is_worth(worth) for worth in thing)


def is_quotient(thing):
    """Whether thing is a pair of integers without a common divisor, the bottom at least 1."""
    if not isinstance(thing, tuple) or len(thing) != 2:
        return False
    top, bottom = thing
    return is_integer(top) and is_integer(bottom) and bottom >= 1 and gcd(top, bottom) == 1


def is_sample(thing):
    """Whether thing is a number below LAST."""
    return is_within(thing, 0, LAST - 1)


def is_goal(thing):
    """Whether thing is a number not above LAST."""
    return is_within(thing, 0, LAST)


def is_given(thing):
    """Whether thing is a quadruple of sounds, one for each channel."""
    return isinstance(thing, tuple) and len(thing) == CHANNELS and all(is_sound(sound) for sound in thing)


def is_mode(thing):
    """Whether thing is the word of a mode of dividing."""
    return isinstance(thing, str) and thing in ("down", "near", "zero")


def is_text(thing):
    """Whether thing is a string of plain characters and newlines, without the percent sign."""
    return isinstance(thing, str) and all(_is_plain(sign) or sign == "\n" for sign in thing)


def alike(one, other):
    """Whether both are equal and of the same kinds throughout: True is not 1."""
    if isinstance(one, tuple) and isinstance(other, tuple):
        return len(one) == len(other) and all([alike(item, its) for item, its in zip(one, other)])
    return is_integer(one) == is_integer(other) and one == other


def _is_plain(sign):
    # The percent sign is number 37; rule L27 keeps it out of the strings of the package.
    return " " <= sign <= "~" and ord(sign) != 37
