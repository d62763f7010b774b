"""Boxes, projects, and the reasons against them [4], [5], [53]."""

from samesamples.projectkinds import freshened, is_box, is_fresh, is_project, reason_against
from samesamples.scorenotes import has_notes
from boxes import KNOBS, inlets
from helpers import ANYTHING, Case, drawing
from projects import AWAY, CROWD, DUO, ECHO, FED, LEVEL, SOUNDLESS, drawn_box, drawn_project, mix, plain_reason, project, voices
from scores import SONG

MANY = tuple(f"n{at:02}" for at in range(25))


class Boxes(Case):
    def test_each_kind(self):
        for kind, rows in KNOBS.items():
            for knobs in rows:
                many = inlets(kind, knobs)
                for wires in ((None,) * many, (("a", 0),) * many, (("abcdefghijkl", 2047),) * many):
                    self.assertIs(is_box((kind, 0, knobs, wires)), True, kind)
                    self.assertIs(is_box((kind, 10 ** 59, knobs, wires)), True, kind)
                self.assertIs(is_box((kind, 0, knobs, (None,) * (many + 1))), False, kind)
                if many:
                    self.assertIs(is_box((kind, 0, knobs, (None,) * (many - 1))), False, kind)

    def test_each_part_wrong(self):
        right = ("mix", 0, ((1, 2), 3), (None, ("a", 5)))
        self.assertIs(is_box(thing=right), True)
        for box in (
            list(right), right[:3], right + (0,), ("mi", 0) + right[2:], (None, 0) + right[2:], (["mix"], 0) + right[2:],
            (("mix",), 0) + right[2:], (0, 0) + right[2:], ("mix", -1) + right[2:], ("mix", True) + right[2:],
            ("mix", None) + right[2:], ("mix", "0") + right[2:], ("mix", 0, [(1, 2), 3], right[3]), ("mix", 0, ([1, 2], 3), right[3]),
            ("mix", 0, ((1, 2), True), right[3]), ("mix", 0, ((1, 2, 3), 3), right[3]), ("mix", 0, ((1,), 3), right[3]),
            ("gain", 0) + right[2:], right[:3] + ([None, ("a", 5)],), right[:3] + (None,), right[:3] + ((),),
            ("voices", 0, ((),) + voices("s")[1:], (None,)), ("level", 0, (5,), None), ("level", 0, (True,), ()),
        ):
            self.assertIs(is_box(box), False, box)
        for wire in (("a", 2048), ("a", -1), ("a", True), ("a", None), ("A", 0), ("", 0), ("abcdefghijklm", 0), (None, 0), ("a",),
                     ("a", 0, 0), ["a", 0], "a0", 0, False, (), ("a", "0")):
            self.assertIs(is_box(right[:3] + ((None, wire),)), False, wire)
            self.assertIs(is_box(right[:3] + ((wire, ("a", 5)),)), False, wire)
        for thing in ANYTHING:
            self.assertIs(is_box(thing), False)


class Projects(Case):
    def test_right_and_wrong(self):
        boxes = tuple((name, LEVEL) for name in MANY)
        scores = tuple((name, SONG) for name in MANY)
        for one in (((), ()), DUO, FED, (boxes[:24], scores[:8]), ((("a", LEVEL),), (("a", SONG),)), ((("a", mix(("b", 0))),), ()),
                    ((), (("s", CROWD),)), ((("a", ("level", 9, (5,), ())),), ())):
            self.assertIs(is_project(one), True, one)
        for one in (
            (boxes, ()), ((), scores[:9]), ((), (), ()), ((),), [(), ()], ([], ()), ((), []), (DUO[0],), (DUO[0], None), (None, ()),
            (DUO[0][::-1], ()), (DUO[0] + DUO[0], ()), ((DUO[0][0], DUO[0][0]), ()), ((("a",),), ()), ((("a", LEVEL, 0),), ()),
            ((["a", LEVEL],), ()), ((("A", LEVEL),), ()), ((("a", None),), ()), (((1, LEVEL),), ()), (((None, LEVEL), ("a", LEVEL)), ()),
            ((("a", LEVEL), ("b", ("level", True, (5,), ()))), ()), ((("a", ("level", 0, (True,), ())),), ()),
            ((), (("s", SONG), ("s", SONG))), ((), (("t", SONG), ("s", SONG))), ((), (("s", SONG[:3]),)), ((), (("S", SONG),)),
            ((), (("s", list(SONG)),)), ((), (("s", None),)), ((("a", LEVEL), ("a", LEVEL)), ()), "ab", (1, 2),
        ):
            self.assertIs(is_project(one), False, one)
        for thing in ANYTHING:
            self.assertIs(is_project(thing=thing), isinstance(thing, tuple) and thing == ((), ()))

    def test_marks(self):
        self.assertIs(is_fresh(DUO), True)
        self.assertIs(is_fresh(((), ())), True)
        marked = project(a=("level", 3, (5,), ()), b=mix(("x", 0)), c=("feed", 10 ** 59, (0,), ()))
        self.assertIs(is_fresh(project=marked), False)
        self.same(freshened(marked), project(a=LEVEL, b=mix(("x", 0)), c=("feed", 0, (0,), ())))
        self.same(freshened(project=DUO), DUO)
        self.same(freshened(((), (("s", SONG),))), ((), (("s", SONG),)))
        source = drawing(53)
        for _ in range(60):
            one = drawn_project(source)
            self.assertIs(is_project(one), True)
            self.assertIs(is_fresh(one), all(box[1] == 0 for _, box in one[0]))
            fresh = freshened(one)
            self.assertIs(is_fresh(fresh) and is_project(fresh), True)
            self.same(reason_against(fresh), reason_against(one))

    def test_drawn_boxes(self):
        source = drawing(4)
        for _ in range(200):
            self.assertIs(is_box(drawn_box(source)), True)


class Reasons(Case):
    def test_each_reason(self):
        for one in (DUO, FED, ((), ()), project(a=mix(("a", 1))), project({"s": SOUNDLESS}, a=("voices", 0, voices("s"), (None,)))):
            self.same(reason_against(one), None)
        self.same(reason_against(project(b=mix(None, ("x", 3)), c=mix(("y", 0)))), ("source", "b"))
        self.same(reason_against(project(c=("voices", 0, voices("s"), (None,)), d=("voices", 0, voices("t"), (None,)))), ("lost", "c"))
        self.same(reason_against(project({"t": SOUNDLESS}, c=("voices", 0, voices("t"), (None,)), d=("voices", 0, voices("s"), (None,)))),
                  ("lost", "d"))
        for score in (AWAY, CROWD):
            self.same(reason_against(project({"t": score, "u": score, "a": SOUNDLESS})), ("notes", "t"))
            self.same(reason_against(project({"t": score}, a=("voices", 0, voices("t"), (None,)))), ("notes", "t"))
        self.same(reason_against(project(b=mix(("b", 0)))), ("ring", "b"))
        self.same(reason_against(project=project(b=mix(("b", 1), ("b", 0)))), ("ring", "b"))
        self.same(reason_against(project(b=mix(("c", 0)), c=mix(("b", 0)))), ("ring", "b"))
        self.same(reason_against(project(b=mix(("c", 0)), c=mix(("b", 1)))), None)

    def test_the_least_name_on_a_ring(self):
        # Names behind a ring, and such as only lead to it, stand on none.
        self.same(reason_against(project(a=mix(("c", 0)), b=LEVEL, c=mix(("d", 0), ("b", 0)), d=mix(("c", 0)))), ("ring", "c"))
        self.same(reason_against(project(a=mix(("c", 0)), c=mix(("d", 0)), d=mix(("d", 0)))), ("ring", "d"))
        self.same(reason_against(project(a=mix(("b", 0)), b=mix(("c", 0), ("d", 0)), c=mix(("c", 0)), d=mix(("b", 0)))), ("ring", "b"))
        # One that leads from a ring to another ring stands on neither.
        self.same(reason_against(project(b=mix(("e", 0)), d=mix(("d", 0), ("b", 0)), e=mix(("e", 0)))), ("ring", "d"))

    def test_which_comes_first(self):
        lost = ("voices", 0, voices("x"), (None,))
        self.same(reason_against(project({"t": AWAY}, a=lost, b=mix(("b", 0)), z=mix(("y", 9)))), ("source", "z"))
        self.same(reason_against(project({"t": AWAY}, b=mix(("b", 0)), z=lost)), ("lost", "z"))
        self.same(reason_against(project({"t": AWAY}, b=mix(("b", 0)))), ("notes", "t"))
        self.same(reason_against(project({"x": AWAY}, a=mix(("b", 0)), b=lost[:3] + ((("a", 0),),))), ("notes", "x"))

    def test_drawn_projects(self):
        source = drawing(5)
        told = {}
        for _ in range(600):
            one = drawn_project(source)
            reason = plain_reason(one, has_notes)
            self.same(reason_against(one), reason)
            word = reason and reason[0]
            told[word] = told.get(word, 0) + 1
        self.assertTrue(len(told) == 5 and min(told.values()) > 10, told)

    def test_asked_twice(self):
        one = project({"t": AWAY}, b=mix(("b", 0)))
        self.same(reason_against(one), ("notes", "t"))
        self.same(reason_against(DUO), None)
        self.same(reason_against(one), ("notes", "t"))
        self.assertEqual(len(ECHO), 1)
