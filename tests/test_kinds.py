"""The kinds of plain values [2], [3], [13]."""

from samesamples import kinds
from samesamples.kinds import (
    is_integer, is_mode, is_name, is_number, is_quotient, is_sound, is_text, is_worth,
)
from helpers import ANYTHING, Case

LONG = 10 ** 60 - 1


class Kinds(Case):
    def test_bounds(self):
        self.same((kinds.TOP, kinds.ONE, kinds.LAST), (1048575, 4096, 20000))

    def test_integers_and_numbers(self):
        self.only(is_integer, (0, 1, -1, 7, LONG))
        self.only(is_number, (0, 1, 7, LONG))

    def test_names(self):
        self.only(is_name, ("a", "down"))
        for name in ("z", "a1", "a00000000000", "abcdefghijkl", "z9"):
            self.assertIs(is_name(name), True)
        for name in ("1a", "A", "aB", "abcdefghijklm", "a_", "a\n", " a", "\xe9", "a\xe9", "a\xb2", "", ("a",), ["a"]):
            self.assertIs(is_name(name), False, repr(name))

    def test_worths(self):
        self.only(is_worth, (0, 1, -1, 7))
        for worth, told in ((1048575, True), (1048576, False), (-1048575, True), (-1048576, False)):
            self.assertIs(is_worth(worth), told)

    def test_sounds(self):
        self.only(is_sound, ((), (1,), (0, 1), (1, 2), (2, 4), (1, 0), (1, -1)))
        for sound in ((0,) * 5000, (1048575, -1048575)):
            self.assertIs(is_sound(sound), True)
        for sound in ((1048576,), (0, -1048576), (0, False), (0, None), ((0,),), [3]):
            self.assertIs(is_sound(sound), False)

    def test_quotients(self):
        self.only(is_quotient, ((0, 1), (1, 2)))
        for pair in ((-3, 2), (5, 1), (LONG, 10 ** 59), (-1, 1)):
            self.assertIs(is_quotient(pair), True)
        for pair in ((0, 2), (0, -1), (1, -2), (True, 1), (1, True), (0, True), (1,), (1, 2, 3), (4, 2), (0, 0)):
            self.assertIs(is_quotient(pair), False, repr(pair))

    def test_modes(self):
        for mode in ("down", "near", "zero"):
            self.assertIs(is_mode(mode), True)
        self.only(is_mode, ("down",))
        for mode in ("Down", "up", "down ", b"down", ("down",), ["down"]):
            self.assertIs(is_mode(mode), False)

    def test_texts(self):
        self.only(is_text, tuple(thing for thing in ANYTHING if isinstance(thing, str)))
        plain = "".join(chr(at) for at in range(32, 127) if at != 37)
        self.assertIs(is_text(plain + "\n" + plain + "\n"), True)
        for at in list(range(32)) + [37, 127, 128, 160, 233, 8364, 0x1F600]:
            self.assertIs(is_text("a" + chr(at)), at == 10, at)
        self.assertIs(is_text(b"a"), False)
