"""The kinds of boxes, their knobs, inlets and shapes [33] to [38]."""

from samesamples.boxkinds import inlets_of, is_kind, kind_names, shape_of
from samesamples.knobkinds import is_knobs, is_settled
from boxes import INLETS, KNOBS, NOTES, ONE, TOP, drawn_knobs, settled
from helpers import ANYTHING, Case, drawing, same

KINDS = (
    "clock", "cross", "curve", "feed", "fence", "gain", "latch", "level", "mean", "mix", "noise", "peak", "press", "punch",
    "reel", "roll", "second", "smooth", "tape", "taps", "voices", "wave",
)

# For each kind and each knob, what is just beyond its bounds, or of another kind.
NO_NUMBER = (None, True, False, "1", (), (1,), [1])
HEIGHT = (-1, TOP + 1) + NO_NUMBER
WORTH = (-TOP - 1, TOP + 1) + NO_NUMBER
SHARE = (-1, ONE + 1) + NO_NUMBER
MODE = ("up", "Near", "", None, True, 0, ("near",), ["near"])
DEN = (0, 4097, -1) + NO_NUMBER
NO_SOUND = (None, 0, "a", True, [0], [], (True,), (TOP + 1,), (0, -TOP - 1), (0, None), ((0,),))
TABLE = ((), (0,) * 65) + NO_SOUND
SOUND = ((0,) * 601,) + NO_SOUND
WEIGHT = (65537, -65537) + NO_NUMBER
NO_WEIGHTS = (None, 0, "a", [0], [], (65537,), (0, -65537), (True,), ((0,),))
MANY = (0, 257, -1) + NO_NUMBER
POINTS = ((), ((0, 0), (0, 1)), ((0,),), ((0, TOP + 1),), [(0, 0)], None, 0, tuple((at, 0) for at in range(65)), ((0, True),))
WRONG = {
    "level": (WORTH,), "feed": ((-1, 4) + NO_NUMBER,), "clock": (HEIGHT, HEIGHT, HEIGHT),
    "noise": ((-1, 2 ** 32) + NO_NUMBER, HEIGHT), "wave": (TABLE, (-2 ** 20 - 1, 2 ** 20 + 1) + NO_NUMBER, DEN),
    "roll": (SOUND,), "reel": (SOUND, (-1, 2 ** 20 + 1) + NO_NUMBER, DEN),
    "mix": (((0,) * 9,) + NO_WEIGHTS, WORTH), "gain": (MODE,), "cross": (MODE,), "fence": (HEIGHT,), "punch": (HEIGHT, HEIGHT),
    "latch": (), "curve": (POINTS,), "tape": (SOUND, HEIGHT), "smooth": (SHARE, MODE), "second": (WEIGHT,) * 5 + (MODE,),
    "taps": (((), (0,) * 17) + NO_WEIGHTS,), "press": (HEIGHT, (-1, 4097) + NO_NUMBER, DEN, SHARE, SHARE),
    "peak": (MANY,), "mean": (MANY,),
    "voices": (("", "A", "1a", "abcdefghijklm", None, 0, ("a",)), (0, 17) + NO_NUMBER, ("first", "", None, 0, ("never",), ["same"]),
               TABLE, DEN, DEN),
}

# The things of ANYTHING that are knobs of a kind.
PAIRS = ((0, 1), (1, 2), (2, 4), (1, 0))
AMONG_ANYTHING = {
    "latch": ((),), "level": ((1,),), "feed": ((1,),), "fence": ((1,),), "peak": ((1,),), "mean": ((1,),), "punch": PAIRS,
    "noise": PAIRS, "roll": (((0, 1),), ((1, 2, 3),)), "taps": (((0, 1),), ((1, 2, 3),)),
}

GOOD_NOTE = (3, 1, 1, 0)
WRONG_NOTES = (
    None, "s", [], [GOOD_NOTE], (None,), (GOOD_NOTE[:3],), (GOOD_NOTE + (0,),), (list(GOOD_NOTE),),
    ((-1, 1, 1, 0),), ((True, 1, 1, 0),), ((0, 0, 1, 0),), ((0, True, 1, 0),), ((0, 1, 0, 0),), ((0, 1, 2 ** 20 + 1, 0),),
    ((0, 1, True, 0),), ((0, 1, 1, -1),), ((0, 1, 1, ONE + 1),), ((0, 1, 1, False),), ((1, 1, 1, 0), (0, 1, 1, 0)),
    (GOOD_NOTE,) * 2001, (GOOD_NOTE, None), ((None, 1, 1, 0),), ((0, "1", 1, 0),),
)
RIGHT_NOTES = ((), NOTES, (GOOD_NOTE,) * 2000, ((10 ** 59, 10 ** 59, 2 ** 20, ONE),))


class Kinds(Case):
    def test_names(self):
        self.same(kind_names(), KINDS)
        self.assertEqual(sorted(KNOBS), list(KINDS))

    def test_is_kind(self):
        for kind in KINDS:
            self.assertIs(is_kind(kind), True)
        for thing in ANYTHING + ("clocks", "Clock", "clock ", ("clock",), ["clock"], "notes", "worth"):
            self.assertIs(is_kind(thing), False, repr(thing))


class Knobs(Case):
    def test_right_knobs(self):
        source = drawing(38)
        for kind in KINDS:
            for knobs in KNOBS[kind]:
                self.assertIs(is_knobs(kind, knobs), True, (kind, knobs))
                self.assertIs(is_settled(kind, knobs), kind != "voices", (kind, knobs))
                self.assertIs(is_settled(kind, settled(kind, knobs)), True, (kind, knobs))
                self.assertIs(is_knobs(kind, settled(kind, knobs)), kind != "voices", (kind, knobs))
            for _ in range(30):
                self.assertIs(is_settled(kind, drawn_knobs(source, kind)), True)

    def test_each_knob_wrong(self):
        for kind in KINDS:
            for knobs in KNOBS[kind]:
                self.assertEqual(len(WRONG[kind]), len(knobs))
                for at, wrong in enumerate(WRONG[kind]):
                    for thing in wrong:
                        changed = knobs[:at] + (thing,) + knobs[at + 1:]
                        self.assertIs(is_knobs(kind, changed), False, (kind, changed))
                        if kind != "voices":
                            self.assertIs(is_settled(kind, changed), False, (kind, changed))
                        elif at > 0:
                            self.assertIs(is_settled(kind, settled(kind, changed)), False, (kind, changed))

    def test_another_length_and_no_tuple(self):
        for kind in KINDS:
            for knobs in KNOBS[kind]:
                for given in (knobs, settled(kind, knobs)):
                    for changed in (given + (0,), given[:-1] if given else (None,), list(given), (given,)):
                        self.assertIs(is_knobs(kind, changed), False, (kind, changed))
                        self.assertIs(is_settled(kind, changed), False, (kind, changed))
            for thing in ANYTHING:
                told = any(same(thing, one) for one in AMONG_ANYTHING.get(kind, ()))
                self.assertIs(is_knobs(kind, thing), told, (kind, thing))
                self.assertIs(is_settled(kind, thing), told, (kind, thing))

    def test_the_num_of_press(self):
        for num, den, told in ((0, 1, True), (1, 1, True), (2, 1, False), (4096, 4096, True), (4095, 4096, True), (4, 3, False)):
            self.assertIs(is_knobs("press", (9, num, den, 0, 0)), told)
            self.assertIs(is_settled("press", (9, num, den, 0, 0)), told)

    def test_notes_of_settled_voices(self):
        rest = (1, "never", (0,), 1, 1)
        for notes in RIGHT_NOTES:
            self.assertIs(is_settled("voices", (notes,) + rest), True)
            self.assertIs(is_knobs("voices", (notes,) + rest), False)
        for notes in WRONG_NOTES:
            self.assertIs(is_settled("voices", (notes,) + rest), False, repr(notes)[:80])
            self.assertIs(is_knobs("voices", (notes,) + rest), notes == "s")

    def test_no_kind(self):
        for kind in ANYTHING + ("clocks", ["latch"], ("latch",)):
            for thing in ((), (1,), (0, 1)):
                self.assertIs(is_knobs(kind, thing), False)
                self.assertIs(is_settled(kind, thing), False)
        self.assertIs(is_knobs(thing=(), kind="latch"), True)
        self.assertIs(is_settled(thing=(), kind="latch"), True)


class InletsAndShapes(Case):
    def test_inlets(self):
        for kind in KINDS:
            for knobs in KNOBS[kind]:
                told = len(knobs[0]) if kind == "mix" else INLETS.get(kind, 0)
                self.same(inlets_of(kind, knobs), told)
                self.same(inlets_of(kind, settled(kind, knobs)), told)
        self.same([inlets_of("mix", ((0,) * many, 0)) for many in range(9)], list(range(9)))

    def test_shapes(self):
        for kind, knobs, shape in (
            ("wave", ((1, 2, 3), 5, 7), (3, 7)), ("voices", ("s", 4, "same", (1, 2), 9, 8), (4, 2)),
            ("voices", (NOTES, 4, "same", (1, 2), 9, 8), (4, 2)), ("taps", ((5, 6, 7),), 3), ("peak", (9,), 9), ("mean", (256,), 256),
            ("reel", ((1, 2), 3, 17), 17),
        ):
            self.same(shape_of(kind, knobs), shape)
        for kind in KINDS:
            if kind not in ("wave", "voices", "taps", "peak", "mean", "reel"):
                for knobs in KNOBS[kind]:
                    self.same(shape_of(kind, knobs), 0)

    def test_wrong_inputs(self):
        for kind in KINDS:
            for thing in ANYTHING + (KNOBS[kind][0] + (0,), list(KNOBS[kind][0])):
                if not is_knobs(kind, thing):
                    self.refuses("knobs", inlets_of, kind, thing)
                    self.refuses("knobs", shape_of, kind, thing)
        self.refuses("knobs", inlets_of, "voices", (None, 1, "never", (0,), 1, 1))
        self.refuses("knobs", shape_of, "press", (9, 2, 1, 0, 0))
        self.same(inlets_of(knobs=(), kind="latch"), 2)
        self.same(shape_of(knobs=(4,), kind="peak"), 4)
