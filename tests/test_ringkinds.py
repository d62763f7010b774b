"""Names, arrows, wires and roofs [43]."""

from samesamples.ringkinds import are_arrows, are_names, are_wires, is_roof
from helpers import ANYTHING, Case

NAMES = ("", "a", "b")
LONG = "x" * 20


class RingKinds(Case):
    def test_names(self):
        many = tuple(f"n{at:02}" for at in range(65))
        for names in ((), ("",), ("a",), NAMES, (LONG,), ("", " ", "+hub", "A", "a b"), many[:64], ("a", "aa", "b")):
            self.assertIs(are_names(names), True, names)
        for names in (many, (LONG + "x",), ("a", "a"), ("b", "a"), ("a", ""), (1,), (None,), ("a", 1), (("a",),), ("a", None),
                      ["a"], [], "ab", {"a": 1}, ("a", True), (b"a",)):
            self.assertIs(are_names(names), False, names)
        for thing in ANYTHING:
            self.assertIs(are_names(thing), isinstance(thing, tuple) and thing == (), repr(thing))

    def test_arrows(self):
        for arrows in ((), (("a", "b", 2),), (("a", "a", -1), ("a", "a", -1)), (("", "", 0),), (("a", "b", -10 ** 60),),
                       (("a", "b", 1),) * 500):
            self.assertIs(are_arrows(NAMES, arrows), True, arrows)
        for arrows in ([], [("a", "b", 2)], (["a", "b", 2],), (("a", "b"),), (("a", "b", 2, 1),), (("a", "c", 2),), (("c", "a", 2),),
                       (("a", "b", True),), (("a", "b", None),), (("a", "b", "2"),), (("a", 1, 2),), ((("a",), "b", 2),),
                       (("a", "b", (2,)),), (([], "b", 2),), (("a", {}, 2),), None, "a", (None,), (("a", "b", 2), ("a", "b", False))):
            self.assertIs(are_arrows(NAMES, arrows), False, arrows)
        self.assertIs(are_arrows((), (("a", "a", 0),)), False)
        self.assertIs(are_arrows((), ()), True)
        for thing in ANYTHING:
            self.assertIs(are_arrows(NAMES, thing), isinstance(thing, tuple) and thing == (), repr(thing))

    def test_wires(self):
        for wires in ((), (("a", "b", 0),), (("", "a", 10 ** 6), ("", "a", 10 ** 6))):
            self.assertIs(are_wires(NAMES, wires), True, wires)
        for wires in ((("a", "b", -1),), (("a", "b", False),), (("a", "b", 0), ("b", "a", -1)), [("a", "b", 0)], (("a", "b", 0, 0),),
                      (("x", "b", 0),), (("a", "b", None),), None):
            self.assertIs(are_wires(NAMES, wires), False, wires)

    def test_roofs(self):
        for roof in ((None, None, None), (0, -5, None), (10 ** 6, 1, -10 ** 6)):
            self.assertIs(is_roof(NAMES, roof), True, roof)
        for roof in ((), (0, 0), (0, 0, 0, 0), [0, 0, 0], (0, True, 0), (0, "0", 0), (0, (), 0), None, 3, "abc", (0, [0], 0)):
            self.assertIs(is_roof(NAMES, roof), False, roof)
        self.assertIs(is_roof((), ()), True)
        self.assertIs(is_roof((), (None,)), False)
        self.assertIs(is_roof(names=("a",), thing=(1,)), True)
