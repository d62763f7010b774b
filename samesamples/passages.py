"""Passages: items that know their lengths and how many events they give, without being walked."""

from samesamples.quotients import plus, times


class Passage:
    """Items, measured part by part."""

    def __init__(self, parts):
        self.parts = parts
        self.length = (0, 1)
        self.count = 0
        for part in parts:
            self.length = plus(self.length, part.length)
            self.count += part.count


class Part:
    """One item; inner is the passage that it goes through, or None."""

    def __init__(self, item, inner, length, count):
        self.item = item
        self.inner = inner
        self.length = length
        self.count = count


def passage_of(score, items):
    """The passage of items that call only phrases of the score."""
    return _passage_of(_phrases_of(score), items)


def voice_passage(score, voice):
    """The passage of the voice's items."""
    return passage_of(score, score[3][voice][1])


def _phrases_of(score):
    """The passages of the score's phrases, by name."""
    phrases = {}
    for name, items in score[2]:
        # A phrase calls only those ahead of it, so all that it calls stands here already.
        phrases[name] = _passage_of(phrases, items)
    return phrases


def _passage_of(phrases, items):
    return Passage([_part_of(phrases, item) for item in items])


def _part_of(phrases, item):
    word = item[0]
    if word == "note":
        return Part(item, None, item[2], 1)
    if word == "rest":
        return Part(item, None, item[1], 0)
    if word == "loud":
        return Part(item, None, (0, 1), 0)
    if word == "call":
        inner = phrases[item[1]]
        return Part(item, inner, inner.length, inner.count)
    inner = _passage_of(phrases, item[2])
    if word == "by":
        return Part(item, inner, times(item[1], inner.length), inner.count)
    return Part(item, inner, times((item[1], 1), inner.length), item[1] * inner.count)
