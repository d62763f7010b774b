"""The notes of scores, worked out once for each score that comes."""

from samesamples.errors import KeyAway, TooMany
from samesamples.scorenotes import notes_of


class NoteBook:
    """What is known of scores so far: the pairs of a score and its notes, None where they cannot be told."""

    def __init__(self):
        self.known = []

    def notes(self, score):
        """The notes of the score, None if they cannot be told."""
        # Scores may be nested too deep for the keys of a dict, and there are but a few.
        for one, told in self.known:
            if one == score:
                return told
        told = _notes_or_none(score)
        self.known.append((score, told))
        return told


def _notes_or_none(score):
    try:
        return notes_of(score)
    except (TooMany, KeyAway):
        return None
