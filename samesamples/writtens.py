"""Words in which integers and quotients are written, each in one form only."""

from samesamples.kinds import is_figures, is_quotient


def integer_written(word):
    """The integer of at most sixty figures that is so written, or None."""
    figures = word[1:] if word.startswith("-") else word
    if not is_figures(figures) or len(figures) > 60:
        return None
    integer = int(word)
    # Only the one form without needless noughts and signs is written back as it was.
    return integer if str(integer) == word else None


def quotient_written(word):
    """The quotient that is written as TOP, or as TOP/BOTTOM with a bottom above 1, or None."""
    first, stroke, second = word.partition("/")
    top = integer_written(first)
    if stroke == "":
        return None if top is None else (top, 1)
    bottom = integer_written(second)
    return (top, bottom) if bottom != 1 and is_quotient((top, bottom)) else None


def quotient_word(quotient):
    """How the quotient is written."""
    top, bottom = quotient
    return f"{top}" if bottom == 1 else f"{top}/{bottom}"
