"""Projects read from their texts."""

from samesamples.demands import demand
from samesamples.errors import BadText
from samesamples.kinds import is_text
from samesamples.projectkinds import reason_against
from samesamples.projectrows import ProjectRows
from samesamples.scorerows import take_all


def read_project(text):
    """The pair of the name and the project whose text this is."""
    demand(is_text(text), "text")
    taken = ProjectRows()
    many = take_all(taken, text)
    name, project = taken.told()
    if reason_against(project) is not None:
        raise BadText(many)
    return name, project
