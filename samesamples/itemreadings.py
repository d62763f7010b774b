"""Items read from their words."""

from samesamples.writtens import integer_written, quotient_written

_DEEPEST = 8


def items_written(words):
    """The items that the words show, or None; their bounds are not looked at."""
    levels = [[]]
    heads = []
    for word in words:
        head = _head_written(word)
        if head is not None:
            heads.append(head)
            levels.append([])
            if len(heads) > _DEEPEST:
                return None
            continue
        if heads and _is_close(word):
            item = _closed(heads.pop(), word, tuple(levels.pop()))
        else:
            item = _plain_item(word)
        if item is None:
            return None
        levels[-1].append(item)
    return None if heads else tuple(levels[0])


def _is_close(word):
    return word == "]" or word.startswith(")")


def _head_written(word):
    """How a times or a by begins with this word; None if none does."""
    if word == "(":
        return ("times", None)
    ratio = quotient_written(word[1:])
    return ("by", ratio) if word.startswith("[") and ratio is not None else None


def _closed(head, word, items):
    """The item that this word ends, or None."""
    if head[0] == "by":
        return ("by", head[1], items) if word == "]" else None
    many = integer_written(word[2:])
    return ("times", many, items) if word.startswith(")x") and many is not None else None


def _plain_item(word):
    """The item that the one word shows, or None."""
    if word.startswith("@"):
        return _call_written(word[1:])
    if word.startswith("!"):
        loud = integer_written(word[1:])
        return None if loud is None else ("loud", loud)
    first, _, second = word.partition(".")
    beats = quotient_written(second)
    if beats is None:
        return None
    if first == "r":
        return ("rest", beats)
    key = integer_written(first)
    return None if key is None else ("note", key, beats)


def _call_written(word):
    """The call written as NAME, NAME+SHIFT or NAME-SHIFT, or None."""
    for sign in ("+", "-"):
        name, found, figures = word.partition(sign)
        if found != "":
            shift = integer_written(figures)
            if shift is None or shift <= 0:
                return None
            return ("call", name, shift if sign == "+" else -shift)
    return ("call", word, 0)
