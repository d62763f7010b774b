"""The kind of a deed [6], [56]."""

from samesamples.deedkinds import is_deed
from boxes import KNOBS, inlets
from helpers import ANYTHING, Case, drawing
from projects import CROWD, LEVEL, drawn_box
from scores import SONG

NO_NAMES = (None, 0, True, "", "A", "1a", "abcdefghijklm", "a b", ("a",), ["a"])
NO_NUMBERS = (None, True, False, -1, "0", (), (0,), [0])
OFF = ("off", "a")


class Deeds(Case):
    def right(self, *deeds):
        for deed in deeds:
            self.assertIs(is_deed(deed), True, deed)
            self.assertIs(is_deed(("all", (deed,))), deed[0] != "all", deed)

    def wrong(self, *deeds):
        for deed in deeds:
            self.assertIs(is_deed(deed), False, deed)
            self.assertIs(is_deed(("all", (OFF, deed))), False, deed)

    def parts(self, deed, *wrongs):
        """Each part of a right deed behind its word, exchanged for wrong ones; and the wrong lengths."""
        self.right(deed)
        self.assertEqual(len(wrongs), len(deed) - 1)
        for at, things in enumerate(wrongs, start=1):
            for thing in things:
                self.wrong(deed[:at] + (thing,) + deed[at + 1:])
        self.wrong(deed[:-1], deed + (None,), deed + deed[-1:], list(deed))
        for word in ("", "Off", "puts", None, 0, True, ("off",), ["off"], "all "):
            self.wrong((word,) + deed[1:])

    def test_each_form(self):
        knobs, wires = ((1, 2), 3), (None, ("x", 2047))
        self.parts(
            ("put", "a", "mix", knobs, wires), NO_NAMES, ("mi", "gain", None, 0, True, ("mix",), ["mix"]),
            (((1,), 3), ((1, 2, 3), 3), [(1, 2), 3], None, ((1, True), 3), ((1, 2),)),
            ((None,), (None,) * 3, [None, None], None, (None, ("x", 2048)), (None, ("x", -1)), (None, ("X", 0)), (None, ("x",)), (0, None)),
        )
        self.parts(("off", "a"), NO_NAMES)
        self.parts(("anew", "a"), NO_NAMES)
        self.parts(("noscore", "a"), NO_NAMES)
        self.parts(("knobs", "a", (5,)), NO_NAMES, (None, 5, [5], (1048576,), (True,), (5, 5, 5, 5, 5, 5, 5), ("s",), ("up",), (None,)))
        self.parts(("wire", "a", 0, "x", 2047), NO_NAMES, NO_NUMBERS, NO_NAMES, (2048,) + NO_NUMBERS)
        self.parts(("loose", "a", 99), NO_NAMES, NO_NUMBERS)
        self.parts(("score", "a", SONG), NO_NAMES, (None, (), SONG[:3], SONG + ((),), list(SONG), SONG[:3] + ((),)))

    def test_edges(self):
        self.right(("wire", "a", 10 ** 59, "a", 0), ("loose", "a", 0), ("score", "s", CROWD), ("put", "a", "level", (5,), ()))
        self.right(("knobs", "a", ()), ("knobs", "a", ("near",)), ("knobs", "a", ((), 0)), ("knobs", "a", ("s", 1, "same", (0,), 1, 1)))
        self.wrong(("knobs", "a", ((), 1, "same", (0,), 1, 1)), ("put", "a", "voices", ((), 1, "same", (0,), 1, 1), (None,)))
        self.wrong(("put", "a", 0, "mix", ((), 0), ()), ("put", "a", ("mix", 0, ((), 0), ())), ("put", "a") + LEVEL)

    def test_knobs_of_each_kind(self):
        for kind, rows in KNOBS.items():
            for knobs in rows:
                self.right(("knobs", "a", knobs), ("put", "a", kind, knobs, (None,) * inlets(kind, knobs)))
        source = drawing(6)
        for _ in range(200):
            kind, _, knobs, wires = drawn_box(source)
            self.right(("put", "z9", kind, knobs, wires), ("knobs", "z9", knobs))

    def test_deeds_of_all(self):
        self.right(("all", ()), ("all", (OFF,) * 24), ("all", (OFF, ("anew", "b"), ("wire", "b", 0, "a", 1))))
        self.wrong(("all", (OFF,) * 25), ("all", [OFF]), ("all", (OFF, list(OFF))), ("all", (("all", ()),)), ("all", (("all", (OFF,)),)),
                   ("all",), ("all", (OFF,), 0), ("all", OFF), ("all", None), ("all", "a"), ("all", "all"), ["all", ()], ("all", (None,)),
                   ("all", ((),)), ("all", (OFF, ("off", "A"))))

    def test_other_things(self):
        self.wrong(*ANYTHING)
        self.same(is_deed(thing=OFF), True)
        self.wrong(("off",), ("off", "a", "a"), ("put",), "off", (0, "a"), (("off", "a"),), ({}, "a"))
