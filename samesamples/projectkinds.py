"""What boxes and projects are, and what reason there is against a project."""

from samesamples.boxkinds import inlets_by
from samesamples.kinds import is_name, is_number, is_within
from samesamples.knobkinds import is_knobs
from samesamples.notebooks import NoteBook
from samesamples.rings import ring_up_to
from samesamples.scorekinds import is_score

MOST_BOXES = 24
MOST_SCORES = 8

_LONGEST_DELAY = 2047


def is_box(thing):
    """Whether thing is a quadruple (kind, mark, knobs, wires) of a box."""
    if not isinstance(thing, tuple) or len(thing) != 4:
        return False
    kind, mark, knobs, wires = thing
    if not is_number(mark) or not is_knobs(kind, knobs) or not isinstance(wires, tuple):
        return False
    return len(wires) == inlets_by(kind, knobs) and all(wire is None or is_wire(wire) for wire in wires)


def is_wire(thing):
    """Whether thing is a pair (source, delay)."""
    return isinstance(thing, tuple) and len(thing) == 2 and is_name(thing[0]) and is_delay(thing[1])


def is_delay(thing):
    """Whether thing is a delay that a wire may have."""
    return is_within(thing, 0, _LONGEST_DELAY)


def is_project(thing):
    """Whether thing has the form of a project, let or not."""
    if not isinstance(thing, tuple) or len(thing) != 2:
        return False
    boxes, scores = thing
    if not _are_named(boxes, MOST_BOXES) or not _are_named(scores, MOST_SCORES):
        return False
    return all(is_box(box) for _, box in boxes) and all(is_score(score) for _, score in scores)


def is_let(thing):
    """Whether thing is a project against which there is no reason."""
    return is_project(thing) and reason_against(thing) is None


def is_fresh(project):
    """Whether all marks of the project are 0."""
    return all([box[1] == 0 for _, box in project[0]])


def freshened(project):
    """The project with all marks 0."""
    boxes, scores = project
    return tuple([(name, (kind, 0, knobs, wires)) for name, (kind, _, knobs, wires) in boxes]), scores


def reason_against(project):
    """The first reason against the project and the name of which it is told; None if the project is let."""
    return reason_by(project, NoteBook())


def reason_by(project, book):
    """As reason_against, with the notes that the book tells."""
    boxes, scores = project
    names = names_in(project)
    stands = {name: True for name in names}
    wires = wires_in(project)
    for source, name, _ in wires:
        if source not in stands:
            return "source", name
    titles = {name: True for name, _ in scores}
    for name, (kind, _, knobs, _) in boxes:
        if kind == "voices" and knobs[0] not in titles:
            return "lost", name
    for name, score in scores:
        if book.notes(score) is None:
            return "notes", name
    if ring_up_to(names, wires, 0) is None:
        return None
    return "ring", _least_on_ring(names, wires)


def names_in(project):
    """The names of the project's boxes, ascending."""
    return tuple([name for name, _ in project[0]])


def wires_in(project):
    """The triples (source, name, delay) of the project's wires, by name and by inlet."""
    told = []
    for name, (_, _, _, wires) in project[0]:
        for wire in wires:
            if wire is not None:
                told.append((wire[0], name, wire[1]))
    return tuple(told)


def _least_on_ring(names, wires):
    """The least name that wires of delay 0 lead from round to itself."""
    short = [(source, name) for source, name, delay in wires if delay == 0]
    return min([name for name in names if name in _behind(short, name)])


def _behind(short, name):
    """The names, as keys, to which one or more of these wires lead from name."""
    found = {}
    fresh = [name]
    while fresh:
        source = fresh.pop()
        for one, later in short:
            if one == source and later not in found:
                found[later] = True
                fresh.append(later)
    return found


def _are_named(thing, most):
    """Whether thing is an ascending tuple of at most so many pairs of a name and something, no name twice."""
    if not isinstance(thing, tuple) or len(thing) > most:
        return False
    if not all(isinstance(pair, tuple) and len(pair) == 2 and is_name(pair[0]) for pair in thing):
        return False
    return all(pair[0] < later[0] for pair, later in zip(thing, thing[1:]))
