"""Deeds: how they change a project, and why they are refused."""

from samesamples.boxkinds import inlets_by
from samesamples.deedkinds import is_deed
from samesamples.demands import demand
from samesamples.errors import NotLet
from samesamples.kinds import is_number
from samesamples.knobkinds import is_knobs
from samesamples.notebooks import NoteBook
from samesamples.projectkinds import MOST_BOXES, MOST_SCORES, reason_by


def done(project, deed, number):
    """The project behind the deed, done with this number."""
    demand(is_deed(deed), "deed")
    demand(is_number(number), "number")
    return done_by(project, deed, number, NoteBook())


def done_by(project, deed, number, book):
    """As done, with the notes that the book tells."""
    boxes, scores = dict(project[0]), dict(project[1])
    for one in deed[1] if deed[0] == "all" else (deed,):
        _do(boxes, scores, one, number)
    changed = _ascending(boxes), _ascending(scores)
    reason = reason_by(changed, book)
    if reason is not None:
        raise NotLet(reason[0], reason[1])
    return changed


def _ascending(table):
    """The ascending pairs of what the table holds by name."""
    return tuple([(name, table[name]) for name in sorted(table)])


def _do(boxes, scores, deed, number):
    """Do a deed that holds no others."""
    if deed[0] in ("score", "noscore"):
        _do_score(scores, deed)
    elif deed[0] == "put":
        _put(boxes, deed)
    elif deed[1] not in boxes:
        raise NotLet("box", deed[1])
    elif deed[0] == "off":
        del boxes[deed[1]]
    elif deed[0] == "anew":
        kind, _, knobs, wires = boxes[deed[1]]
        boxes[deed[1]] = (kind, number + 1, knobs, wires)
    elif deed[0] == "knobs":
        _set_knobs(boxes, deed)
    else:
        _set_wire(boxes, deed)


def _do_score(scores, deed):
    name = deed[1]
    if deed[0] == "noscore":
        if name not in scores:
            raise NotLet("score", name)
        del scores[name]
        return
    if name not in scores and len(scores) >= MOST_SCORES:
        raise NotLet("many", name)
    scores[name] = deed[2]


def _put(boxes, deed):
    _, name, kind, knobs, wires = deed
    if name not in boxes and len(boxes) >= MOST_BOXES:
        raise NotLet("many", name)
    mark = boxes[name][1] if name in boxes else 0
    boxes[name] = (kind, mark, knobs, wires)


def _set_knobs(boxes, deed):
    _, name, knobs = deed
    kind, mark, _, wires = boxes[name]
    if not is_knobs(kind, knobs) or inlets_by(kind, knobs) != len(wires):
        raise NotLet("knobs", name)
    boxes[name] = (kind, mark, knobs, wires)


def _set_wire(boxes, deed):
    """Put another wire to an inlet, or None if the deed tells none."""
    name, inlet = deed[1], deed[2]
    kind, mark, knobs, wires = boxes[name]
    if inlet >= len(wires):
        raise NotLet("inlet", name)
    wire = deed[3:] if deed[0] == "wire" else None
    boxes[name] = (kind, mark, knobs, wires[:inlet] + (wire,) + wires[inlet + 1:])
