"""What a function does first: it refuses a parameter that is not as stated."""

from samesamples.errors import NotUsable


def demand(holds, word):
    """Refuse the parameter called word unless what is stated of it holds."""
    if not holds:
        raise NotUsable(word, -1)
