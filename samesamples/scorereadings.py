"""Scores read from their texts."""

from samesamples.demands import demand
from samesamples.errors import BadText
from samesamples.kinds import is_text
from samesamples.scorerows import ScoreRows


def read_score(text):
    """The pair of the name and the score whose text this is."""
    demand(is_text(text), "text")
    rows = text.split("\n")
    taken = ScoreRows()
    for at, row in enumerate(rows[:-1]):
        if not taken.take(row):
            raise BadText(at)
    # Behind the last newline stands nothing, or one row that no text can have.
    if rows[-1] != "" or not taken.ended:
        raise BadText(len(rows) - 1)
    return taken.told()
