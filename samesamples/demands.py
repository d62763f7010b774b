"""What a function refuses: a parameter that is not as stated, a paper by an entry of its checker."""

from samesamples.errors import InvalidPaper, NotUsable


def demand(holds, word):
    """Refuse the parameter called word unless what is stated of it holds."""
    if not holds:
        raise NotUsable(word, -1)


def insist(holds, word, at):
    """Refuse the paper by the entry called word, at this place, unless what the entry asks holds."""
    if not holds:
        raise InvalidPaper(word, at)
