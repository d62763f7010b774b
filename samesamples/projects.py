"""Projects: what stands in them, and two of them beside one another."""

from samesamples.boxkinds import shape_by
from samesamples.demands import demand
from samesamples.kinds import is_name
from samesamples.notebooks import NoteBook
from samesamples.projectkinds import MOST_BOXES, MOST_SCORES, is_let, names_in, wires_in
from samesamples.rings import order_up_to


def empty_project():
    """The project without boxes and scores."""
    return (), ()


def box_of(project, name):
    """The box of this name; None if the name does not stand."""
    demand(is_name(name), "name")
    return dict(project[0]).get(name)


def names_of(project):
    """The names of the boxes, ascending."""
    return names_in(project)


def wires_of(project):
    """The triples (source, name, delay) of all wires, by name and by inlet."""
    return wires_in(project)


def life_of(project, name):
    """The triple (kind, mark, shape) of the box; None if the name does not stand."""
    box = box_of(project, name)
    return None if box is None else life_by(box)


def life_by(box):
    """The life of a box: by it the box goes on from one project to another."""
    kind, mark, knobs, _ = box
    return kind, mark, shape_by(kind, knobs)


def settled_of(project):
    """The ascending pairs (name, settled box)."""
    return settled_by(project, NoteBook())


def settled_by(project, book):
    """As settled_of, with the notes that the book tells."""
    scores = dict(project[1])
    return tuple([(name, _settled(box, scores, book)) for name, box in project[0]])


def order_in(project):
    """All names, the least one first whose sources by wires of delay 0 are ahead."""
    return order_up_to(names_in(project), wires_in(project), 0)


def beside(project, other):
    """The project with the boxes and scores of both."""
    demand(is_let(other) and _have_room(project, other), "other")
    boxes = _by_name(project[0] + other[0])
    return boxes, _by_name(project[1] + other[1])


def _have_room(project, other):
    """Whether the two share no name, and are together not too many."""
    for ones, others, most in zip(project, other, (MOST_BOXES, MOST_SCORES)):
        names = [name for name, _ in ones + others]
        if len(set(names)) < len(names) or len(names) > most:
            return False
    return True


def _by_name(pairs):
    return tuple(sorted(pairs, key=lambda pair: pair[0]))


def _settled(box, scores, book):
    kind, mark, knobs, wires = box
    if kind != "voices":
        return box
    return kind, mark, (book.notes(scores[knobs[0]]),) + knobs[1:], wires
