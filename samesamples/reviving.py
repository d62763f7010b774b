"""Desks that are made anew from their journals."""

from samesamples.desk import Desk
from samesamples.journals import whole_rows


def revived(text):
    """A new desk that has done the whole rows of the text."""
    desk = Desk()
    for row in whole_rows(text):
        desk.do(row)
    return desk
