"""The texts of projects."""

from samesamples.datatexts import text_of
from samesamples.demands import demand
from samesamples.kinds import is_name
from samesamples.projectkinds import is_let
from samesamples.scoretexts import show_score


def show_project(name, project):
    """The text of the project under this name."""
    demand(is_name(name), "name")
    demand(is_let(project), "project")
    boxes, scores = project
    rows = [f"project {name}\n"]
    for box, (kind, mark, knobs, _) in boxes:
        rows.append(f"box {box} {kind} {mark} {text_of(knobs)}\n")
    for box, (_, _, _, wires) in boxes:
        for inlet, wire in enumerate(wires):
            if wire is not None:
                rows.append(f"wire {box} {inlet} {wire[0]} {wire[1]}\n")
    for title, score in scores:
        rows.append(show_score(title, score))
    return "".join(rows) + "end\n"
