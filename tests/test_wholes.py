"""Clipping and dividing in a mode [14], and what follows [22]."""

from fractions import Fraction
from math import floor, trunc

from samesamples.wholes import clip, turned
from helpers import ANYTHING, Case, drawing

TOP = 1048575


def plainly_turned(value, many, mode):
    exact = Fraction(value, many)
    return {"down": floor(exact), "near": floor(exact + Fraction(1, 2)), "zero": trunc(exact)}[mode]


class Wholes(Case):
    def test_clip(self):
        for value, told in ((0, 0), (TOP, TOP), (TOP + 1, TOP), (-TOP, -TOP), (-TOP - 1, -TOP), (10 ** 59, TOP),
                            (-10 ** 59, -TOP), (-5, -5)):
            self.same(clip(value), told)
        self.same(clip(value=7), 7)

    def test_turned_near_zero(self):
        for value in range(-40, 41):
            for many in range(1, 13):
                for mode in ("down", "near", "zero"):
                    self.same(turned(value, many, mode), plainly_turned(value, many, mode))

    def test_halves(self):
        self.same([turned(value, 2, "near") for value in (-5, -3, -1, 1, 3, 5)], [-2, -1, 0, 1, 2, 3])
        self.same([turned(value, 2, "down") for value in (-3, -1, 1, 3)], [-2, -1, 0, 1])
        self.same([turned(value, 2, "zero") for value in (-3, -1, 1, 3)], [-1, 0, 0, 1])

    def test_turned_far_out(self):
        source = drawing(14)
        for _ in range(500):
            value, many = source.randint(-10 ** 60, 10 ** 60), source.randint(1, 10 ** source.randint(1, 40))
            for mode in ("down", "near", "zero"):
                self.same(turned(value=value, many=many, mode=mode), plainly_turned(value, many, mode))

    def test_between_nought_and_value(self):
        source = drawing(22)
        for _ in range(300):
            many = source.randint(1, 50)
            value, k = source.randint(-100, 100), source.randint(0, many)
            for mode in ("down", "near", "zero"):
                told = turned(value * k, many, mode)
                self.assertTrue(min(0, value) <= told <= max(0, value))

    def test_wrong_inputs(self):
        for thing in ANYTHING:
            if not isinstance(thing, int) or isinstance(thing, bool):
                self.refuses("value", clip, thing)
                self.refuses("value", turned, thing, 0, "up")
                self.refuses("many", turned, 1, thing, "up")
            if thing != "down":
                self.refuses("mode", turned, 1, 1, thing)
        self.refuses("many", turned, 1, 0, "down")
        self.refuses("many", turned, 1, -2, "down")
