"""Draws [16], and what follows [22]."""

from fractions import Fraction
from math import floor

from samesamples.draws import draw, drawn, leap_draw
from helpers import ANYTHING, Case, drawing

LAST = 2 ** 32 - 1
TOP = 1048575


class Draws(Case):
    def test_draw(self):
        self.same(draw(0), 1013904223)
        for value in (1, 9, 2 ** 31, LAST - 1, LAST):
            self.same(draw(value), (1664525 * value + 1013904223) % 2 ** 32)

    def test_drawn(self):
        for value in (0, 1, 2 ** 31 - 1, 2 ** 31, LAST):
            for peak in (0, 1, 2, 100, TOP - 1, TOP):
                told = drawn(value, peak)
                self.same(told, floor(Fraction(value * (2 * peak + 1), 2 ** 32)) - peak)
                self.assertTrue(-peak <= told <= peak)
        self.same((drawn(0, TOP), drawn(LAST, TOP), drawn(0, 0), drawn(LAST, 0)), (-TOP, TOP, 0, 0))

    def test_leap_is_so_many_draws(self):
        for start in (0, 9, LAST):
            value = start
            for many in range(200):
                self.same(leap_draw(start, many), value)
                value = draw(value)

    def test_leaps_add_up(self):
        source = drawing(16)
        for _ in range(300):
            value = source.randint(0, LAST)
            k, m = source.randint(0, 10 ** source.randint(0, 29)), source.randint(0, 10 ** source.randint(0, 29))
            self.same(leap_draw(leap_draw(value, k), m), leap_draw(value, k + m))

    def test_whole_round(self):
        # These draws go through all 2 ** 32 numbers before one comes again.
        self.same(leap_draw(5, 2 ** 32), 5)
        self.assertNotEqual(leap_draw(5, 2 ** 31), 5)
        self.same(leap_draw(5, 10 ** 30), leap_draw(5, 10 ** 30 % 2 ** 32))
        self.same(leap_draw(5, 0), 5)

    def test_wrong_inputs(self):
        for thing in ANYTHING + (LAST + 1, -1, 10 ** 31):
            if not isinstance(thing, int) or isinstance(thing, bool) or not 0 <= thing <= LAST:
                self.refuses("value", draw, thing)
                self.refuses("value", drawn, thing, -1)
                self.refuses("value", leap_draw, thing, -1)
            if not isinstance(thing, int) or isinstance(thing, bool) or not 0 <= thing <= 10 ** 30:
                self.refuses("peak", drawn, 0, thing)
                self.refuses("many", leap_draw, 0, thing)
        self.refuses("peak", drawn, 0, TOP + 1)
        self.refuses("many", leap_draw, 0, 10 ** 30 + 1)
        self.same(drawn(value=LAST, peak=3), 3)
        self.same(leap_draw(many=1, value=0), 1013904223)
