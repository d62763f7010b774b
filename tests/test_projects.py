"""Projects: what stands in them [54], and two beside one another [55]."""

from samesamples.orders import order_of
from samesamples.projectkinds import is_project, reason_against
from samesamples.projects import (
    beside, box_of, empty_project, life_of, names_of, order_in, settled_of, wires_of,
)
from samesamples.boxkinds import shape_of
from samesamples.knobkinds import is_settled
from samesamples.scorenotes import has_notes, notes_of
from helpers import ANYTHING, Case, drawing
from projects import AWAY, DUO, FED, LEVEL, SOUNDLESS, drawn_project, let_project, mix, project, voices
from scores import SONG
from test_orders import plain_order

TUNE = ("voices", 0, voices("s"), (("a", 0),))


class Projects(Case):
    def test_empty(self):
        self.same(empty_project(), ((), ()))
        self.same((names_of(((), ())), wires_of(((), ())), settled_of(((), ())), order_in(((), ()))), ((), (), (), ()))

    def test_names_boxes_lives(self):
        self.same(names_of(project=DUO), ("a", "b"))
        self.same(box_of(DUO, "a"), ("clock", 0, (0, 0, 3), ()))
        self.same(box_of(project=DUO, name="c"), None)
        self.same(life_of(project=DUO, name="b"), ("mix", 0, 0))
        self.same(life_of(DUO, "c"), None)
        one = project(a=("wave", 7, ((1, 2, 3), 5, 9), (None,)), b=TUNE, c=("reel", 1, ((), 0, 12), ()), d=("taps", 0, ((1, 2),), (None,)),
                      e=("peak", 0, (5,), (("x", 0),)))
        self.same([life_of(one, name) for name in "abcde"],
                  [("wave", 7, (3, 9)), ("voices", 0, (3, 2)), ("reel", 1, 12), ("taps", 0, 2), ("peak", 0, 5)])
        for thing in ANYTHING:
            if thing not in ("a", "down"):
                self.refuses("name", box_of, DUO, thing)
                self.refuses("name", life_of, DUO, thing)

    def test_wires(self):
        self.same(wires_of(project=FED), (("f", "g", 2),))
        one = project(b=mix(("x", 3), None, ("b", 0), ("x", 3)), a=mix(("b", 1)), c=mix(None))
        self.same(wires_of(one), (("b", "a", 1), ("x", "b", 3), ("b", "b", 0), ("x", "b", 3)))

    def test_settled(self):
        one = project({"s": SONG, "t": SOUNDLESS}, a=LEVEL, b=TUNE, c=("voices", 4, voices("t"), (None,)))
        told = settled_of(project=one)
        self.same([name for name, _ in told], ["a", "b", "c"])
        self.same(told[0][1], LEVEL)
        self.same(told[1][1], ("voices", 0, (notes_of(SONG),) + voices("s")[1:], (("a", 0),)))
        self.same(told[2][1], ("voices", 4, (notes_of(SOUNDLESS),) + voices("t")[1:], (None,)))
        source = drawing(54)
        for _ in range(60):
            one = let_project(source, has_notes)
            for (name, box), (its, settled) in zip(one[0], settled_of(one)):
                self.same((name, box[:2], box[3]), (its, settled[:2], settled[3]))
                self.assertIs(is_settled(settled[0], settled[2]), True)
                self.same(settled == box, box[0] != "voices")

    def test_order(self):
        self.same(order_in(project=DUO), ("a", "b"))
        self.same(order_in(project(a=mix(("c", 0)), b=LEVEL, c=mix(("c", 1)), d=LEVEL)), ("b", "c", "a", "d"))
        source = drawing(55)
        for _ in range(150):
            one = let_project(source, has_notes, most=6)
            self.same(order_in(one), plain_order(names_of(one), wires_of(one)))
            self.same(("order", order_in(one)), order_of(names_of(one), wires_of(one)))

    def test_drawn_projects_need_not_be_let(self):
        source = drawing(56)
        for _ in range(150):
            one = drawn_project(source)
            boxes = dict(one[0])
            self.same(names_of(one), tuple(sorted(boxes)))
            wires = []
            for name in sorted(boxes):
                self.same(box_of(one, name), boxes[name])
                kind, mark, knobs, inlets = boxes[name]
                self.same(life_of(one, name), (kind, mark, shape_of(kind, knobs)))
                wires += [(wire[0], name, wire[1]) for wire in inlets if wire is not None]
            self.same(wires_of(one), tuple(wires))


class Beside(Case):
    def test_both(self):
        other = project({"b": SONG}, aa=LEVEL, c=("feed", 3, (0,), ()))
        both = beside(project=DUO, other=other)
        self.same(both, (tuple(sorted(DUO[0] + other[0])), other[1]))
        self.same(beside(other, DUO), both)
        self.same(beside(((), ()), other), other)
        self.same(beside(DUO, ((), ())), DUO)
        one = project({"s": SONG}, a=("voices", 0, voices("s"), (None,)))
        self.same(beside(one, project({"a": SOUNDLESS}, s=LEVEL))[1], (("a", SOUNDLESS), ("s", SONG)))

    def test_drawn_projects(self):
        source = drawing(57)
        taken = 0
        for _ in range(200):
            one, other = let_project(source, has_notes), let_project(source, has_notes)
            names = {name for name, _ in one[0]} & {name for name, _ in other[0]}
            titles = {name for name, _ in one[1]} & {name for name, _ in other[1]}
            if names or titles:
                self.refuses("other", beside, one, other)
                continue
            taken += 1
            both = beside(one, other)
            self.same(beside(other, one), both)
            self.assertIs(is_project(both), True)
            self.same(reason_against(both), None)
            self.same((dict(both[0]), dict(both[1])), (dict(one[0] + other[0]), dict(one[1] + other[1])))
        self.assertTrue(20 < taken < 190, taken)

    def test_names_in_common_and_too_many(self):
        levels = tuple((f"n{at:02}", LEVEL) for at in range(24))
        songs = tuple((f"s{at}", SONG) for at in range(8))
        self.same(len(beside((levels[:13], ()), (levels[13:], ()))[0]), 24)
        self.refuses("other", beside, (levels, ()), project(a=LEVEL))
        self.refuses("other", beside, (levels[:13], ()), (levels[13:] + (("z", LEVEL),), ()))
        self.same(len(beside(((), songs[:3]), ((), songs[3:]))[1]), 8)
        self.refuses("other", beside, ((), songs), ((), (("t", SONG),)))
        self.refuses("other", beside, DUO, project(b=LEVEL))
        self.refuses("other", beside, ((), songs[:2]), ((), songs[1:3]))

    def test_other_must_be_a_let_project(self):
        for other in (project(c=mix(("c", 0))), project(c=mix(("a", 0))), project({"t": AWAY}), ([], ()), ((("c", LEVEL[:3]),), ()), DUO[:1],
                      ((("c", ("level", True, (5,), ())),), ())):
            self.refuses("other", beside, ((), ()), other)
        for thing in ANYTHING:
            if thing != ((), ()):
                self.refuses("other", beside, DUO, thing)
