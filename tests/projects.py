"""Projects for the tests: the document's own, drawn ones, and what stands against them by plain search."""

from fractions import Fraction

from boxes import KNOBS, drawn_knobs, inlets
from helpers import quotient
from scores import NOTE, SONG, drawn_items, song

DUO = ((("a", ("clock", 0, (0, 0, 3), ())), ("b", ("mix", 0, ((4096, 4096), 0), (("a", 0), ("b", 1))))), ())
ECHO = ((2, None, ("wire", "b", 0, "a", 1)),)
MUTE = ((), (), (), ())
FED = ((("f", ("feed", 0, (1,), ())), ("g", ("mix", 0, ((4096,), 0), (("f", 2),)))), ())

LEVEL = ("level", 0, (5,), ())
SOUNDLESS = song((NOTE,))
AWAY = song((("note", 60, (1, 1)),))
CROWD = song((("times", 2001, (NOTE,)),))
NAMES = ("a", "b", "c", "d", "e", "z9")
TITLES = ("b", "s", "t")

KINDS = tuple(sorted(KNOBS))


def voices(score):
    """Knobs of voices that play the score of this name."""
    return score, 3, "oldest", (0, 4000), 2, 2


def mix(*wires, bias=0):
    """A box that adds up what these wires bring."""
    return "mix", 0, ((4096,) * len(wires), bias), tuple(wires)


def project(scores=(), **boxes):
    """A project of these boxes."""
    return tuple(sorted(boxes.items())), tuple(sorted(dict(scores).items()))


def box_knobs(source, kind, titles=TITLES):
    """Knobs of a box of the kind, the score's name in the place of the notes."""
    knobs = drawn_knobs(source, kind)
    return (source.choice(titles),) + knobs[1:] if kind == "voices" else knobs


def drawn_score(source):
    """A short score that mostly has notes."""
    if source.randint(0, 9) == 0:
        return source.choice((AWAY, CROWD, SONG))
    pace = quotient(Fraction(source.randint(1, 3), source.randint(1, 2)))
    return song(drawn_items(source, (), 2, 3), tempo=(((0, 1), pace),))


def drawn_wire(source, names, farthest=3):
    delay = source.choice((0, 0, 1, source.randint(0, farthest)))
    return source.choice((None, (source.choice(names), delay), (source.choice(names), delay)))


def drawn_box(source, names=NAMES, titles=TITLES, kinds=KINDS, farthest=3):
    kind = source.choice(kinds)
    knobs = box_knobs(source, kind, titles)
    wires = tuple(drawn_wire(source, names, farthest) for _ in range(inlets(kind, knobs)))
    return kind, source.choice((0, 0, 0, 1, 7)), knobs, wires


def drawn_project(source, names=NAMES, most=4, kinds=KINDS, farthest=3):
    """A project, let or not."""
    chosen = sorted(source.sample(names, source.randint(0, most)))
    titles = sorted(source.sample(TITLES, source.randint(0, 2)))
    boxes = [(name, drawn_box(source, chosen + [source.choice(names)], titles + ["s"], kinds, farthest)) for name in chosen]
    return tuple(boxes), tuple((title, drawn_score(source)) for title in titles)


def plain_reason(one, has_notes):
    """The first reason against the project, by the document's words."""
    boxes, scores = dict(one[0]), dict(one[1])
    for name in sorted(boxes):
        if any(wire is not None and wire[0] not in boxes for wire in boxes[name][3]):
            return "source", name
    for name in sorted(boxes):
        if boxes[name][0] == "voices" and boxes[name][2][0] not in scores:
            return "lost", name
    for name in sorted(scores):
        if not has_notes(scores[name]):
            return "notes", name
    for name in sorted(boxes):
        found, fresh = set(), {name}
        while fresh:
            behind = {wire[0] for one in fresh for wire in boxes[one][3] if wire is not None and wire[1] == 0}
            if name in behind:
                return "ring", name
            fresh = behind - found
            found |= fresh
    return None


def let_project(source, has_notes, least=0, **told):
    """A drawn project of at least so many boxes, against which there is no reason, fresh."""
    while True:
        boxes, scores = drawn_project(source, **told)
        if len(boxes) >= least and plain_reason((boxes, scores), has_notes) is None:
            return tuple((name, (kind, 0, knobs, wires)) for name, (kind, _, knobs, wires) in boxes), scores
