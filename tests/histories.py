"""Histories for the tests: drawn ones, and what they mean, reckoned place by place from the document's words."""

from samesamples.boxkinds import shape_of
from samesamples.scorenotes import has_notes, notes_of
from boxes import inlets, plain_step
from projects import NAMES, TITLES, box_knobs, drawn_box, drawn_score, drawn_wire, plain_reason

LAST = 20000
MOST_BOXES, MOST_SCORES = 24, 8


def plain_do(boxes, scores, deed, number):
    """Do a deed that is no all; the reason and the name if it is refused."""
    word, name = deed[:2]
    if word == "score":
        if name not in scores and len(scores) == MOST_SCORES:
            return "many", name
        scores[name] = deed[2]
    elif word == "noscore":
        if name not in scores:
            return "score", name
        del scores[name]
    elif word == "put":
        if name not in boxes and len(boxes) == MOST_BOXES:
            return "many", name
        boxes[name] = (deed[2], boxes.get(name, (None, 0))[1], deed[3], deed[4])
    elif name not in boxes:
        return "box", name
    elif word == "off":
        del boxes[name]
    else:
        kind, mark, knobs, wires = boxes[name]
        wires = list(wires)
        if word == "anew":
            mark = number + 1
        elif word == "knobs":
            try:
                many = inlets(kind, deed[2]) if shape_of(kind, deed[2]) is not None else None
            except ValueError:
                return "knobs", name
            if many != len(wires):
                return "knobs", name
            knobs = deed[2]
        elif deed[2] >= len(wires):
            return "inlet", name
        else:
            wires[deed[2]] = deed[3:] if word == "wire" else None
        boxes[name] = (kind, mark, knobs, tuple(wires))
    return None


def plain_done(project, deed, number):
    """The project behind the deed and None; or None and the reason and name for which it is refused."""
    boxes, scores = dict(project[0]), dict(project[1])
    for one in deed[1] if deed[0] == "all" else [deed]:
        refusal = plain_do(boxes, scores, one, number)
        if refusal is not None:
            return None, refusal
    behind = tuple(sorted(boxes.items())), tuple(sorted(scores.items()))
    reason = plain_reason(behind, has_notes)
    return (behind, None) if reason is None else (None, reason)


def plain_standing(project, entries, sample):
    """The standing at the sample, and the numbers of the entries that sleep there."""
    asleep = []
    for begin, number in sorted((entry[0], number) for number, entry in enumerate(entries)):
        until = entries[number][1]
        if begin <= sample and (until is None or sample < until):
            behind, refusal = plain_done(project, entries[number][2], number)
            if refusal is None:
                project = behind
            else:
                asleep.append(number)
    return project, tuple(sorted(asleep))


class Plain:
    """A history, place by place."""

    def __init__(self, project, entries, goal):
        self.goal = goal
        known = {}
        self.standings = []
        for sample in range(goal):
            numbers = tuple(n for n, (begin, until, _) in enumerate(entries) if begin <= sample and (until is None or sample < until))
            if numbers not in known:
                boxes, scores = plain_standing(project, entries, sample)[0]
                known[numbers] = dict(boxes), dict(scores)
            self.standings.append(known[numbers])
        self.names = sorted({name for boxes, _ in self.standings for name in boxes})

    def box(self, name, sample):
        """The settled box; None where the name does not stand."""
        boxes, scores = self.standings[sample]
        if name not in boxes:
            return None
        kind, mark, knobs, wires = boxes[name]
        if kind == "voices":
            knobs = (notes_of(scores[knobs[0]]),) + knobs[1:]
        return kind, mark, knobs, wires

    def life(self, name, sample):
        if sample < 0 or name not in self.standings[sample][0]:
            return None
        kind, mark, knobs, _ = self.standings[sample][0][name]
        return kind, mark, shape_of(kind, knobs)

    def is_carried(self, name, sample):
        return self.life(name, sample) is not None and self.life(name, sample) == self.life(name, sample - 1)

    def reads(self, name, sample):
        """What each inlet reads: a place, or None."""
        told = []
        for wire in self.standings[sample][0][name][3]:
            reads = wire is not None and wire[1] <= sample and wire[0] in self.standings[sample - wire[1]][0]
            told.append((wire[0], sample - wire[1]) if reads else None)
        return told

    def neighbours(self, place):
        """The places next to this one: those that it reads, and its own one sample earlier if it is carried."""
        name, sample = place
        if name not in self.standings[sample][0]:
            return []
        told = [one for one in self.reads(name, sample) if one is not None]
        return told + ([(name, sample - 1)] if self.is_carried(name, sample) else [])

    def hangs_on(self, place):
        """All places on which this one hangs."""
        found, fresh = {place}, [place]
        while fresh:
            for one in self.neighbours(fresh.pop()):
                if one not in found:
                    found.add(one)
                    fresh.append(one)
        return found

    def run(self, given):
        """By place the state and the worth of the run."""
        told = {}

        def tell(name, sample):
            if (name, sample) not in told:
                box = self.box(name, sample)
                if box is None:
                    told[name, sample] = None, 0
                else:
                    kind, _, knobs, _ = box
                    worths = tuple(0 if place is None else tell(*place)[1] for place in self.reads(name, sample))
                    if kind == "feed":
                        worths = (dict(enumerate(given[knobs[0]])).get(sample, 0),)
                    state = tell(name, sample - 1)[0] if self.is_carried(name, sample) else plain_start(kind, knobs)
                    told[name, sample] = plain_step(kind, knobs, state, worths)
            return told[name, sample]

        for sample in range(self.goal):
            for name in self.names:
                tell(name, sample)
        return told

    def table(self, given):
        """The run in the form of run_of."""
        told = self.run(given)
        samples = range(self.goal)
        return (
            tuple(self.names), tuple(tuple(told[name, sample][1] for sample in samples) for name in self.names),
            tuple(tuple(told[name, sample][0] for sample in samples) for name in self.names),
        )


def plain_start(kind, knobs):
    if kind in ("clock", "noise"):
        return knobs[0]
    return {
        "voices": (), "second": (0,) * 4, "taps": (0,) * (len(knobs[0]) - 1 if kind == "taps" else 0),
    }.get(kind, (0,) * (knobs[0] - 1) if kind in ("peak", "mean") else 0)


def plain_seeds(one, other):
    """The seeds of two histories, told as Plain."""
    seeds = []
    for sample in range(one.goal):
        for name in sorted(set(one.names) | set(other.names)):
            box, its = one.box(name, sample), other.box(name, sample)
            if box is None and its is None:
                continue
            if box is None or its is None or box[0] != its[0] or box[2] != its[2] \
                    or one.is_carried(name, sample) != other.is_carried(name, sample) \
                    or one.reads(name, sample) != other.reads(name, sample):
                seeds.append((name, sample))
    return tuple(sorted(seeds))


def plain_cone(history, seeds, names):
    """The places of this history that hang on a seed."""
    seeds = set(seeds)
    return {(name, sample) for name in names for sample in range(history.goal) if seeds & history.hangs_on((name, sample))}


def drawn_deed(source, names=NAMES, titles=TITLES, kinds=None, farthest=3, deep=True):
    """A deed, that can often be done."""
    told = {"farthest": farthest} if kinds is None else {"farthest": farthest, "kinds": kinds}
    word = source.choice(("put", "put", "off", "knobs", "knobs", "wire", "wire", "loose", "anew", "score", "noscore", "all"))
    name = source.choice(names)
    if word == "put":
        kind, _, knobs, wires = drawn_box(source, names, titles, **told)
        return word, name, kind, knobs, wires
    if word == "knobs":
        return word, name, box_knobs(source, source.choice(kinds or ("level", "mix", "clock", "peak", "taps", "wave")), titles)
    if word == "wire":
        wire = drawn_wire(source, names, farthest)
        return (word, name, source.randint(0, 2)) + (wire or (source.choice(names), 0))
    if word == "loose":
        return word, name, source.randint(0, 2)
    if word in ("score", "noscore"):
        title = source.choice(titles)
        return (word, title, drawn_score(source)) if word == "score" else (word, title)
    if word == "all":
        many = source.randint(0, 3) if deep else 0
        deeds = [drawn_deed(source, names, titles, kinds, farthest, False) for _ in range(many)]
        return word, tuple(deed for deed in deeds if deed[0] != "all")
    return word, name


def drawn_entries(source, most=4, last=12, **told):
    entries = []
    for _ in range(source.randint(0, most)):
        begin = source.randint(0, last)
        until = source.choice((None, None, begin, source.randint(begin, last + 3), LAST))
        entries.append((begin, until, drawn_deed(source, **told)))
    return tuple(entries)


def drawn_given(source, most=14):
    return tuple(tuple(source.choice((1, -1, 5000, source.randint(-99, 99))) for _ in range(source.choice((0, most, source.randint(0, most)))))
                 for _ in range(4))
