"""How long items are and how many events they give, without walking them."""

from samesamples.demands import demand
from samesamples.passages import passage_of
from samesamples.scorekinds import calls_only, is_items


def items_length(score, items):
    """The sum of the beats that the items take."""
    demand(_can_be_measured(score, items), "items")
    return passage_of(score, items).length


def items_count(score, items):
    """How many events the items give."""
    demand(_can_be_measured(score, items), "items")
    return passage_of(score, items).count


def _can_be_measured(score, items):
    return is_items(items) and calls_only([name for name, _ in score[2]], items)
