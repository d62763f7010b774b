"""Scores read from their texts."""

from samesamples.demands import demand
from samesamples.kinds import is_text
from samesamples.scorerows import ScoreRows, take_all


def read_score(text):
    """The pair of the name and the score whose text this is."""
    demand(is_text(text), "text")
    taken = ScoreRows()
    take_all(taken, text)
    return taken.told()
