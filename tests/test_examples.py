"""The examples of the document."""

from samesamples.curves import curve_at
from samesamples.datareadings import value_of
from samesamples.datatexts import text_of
from samesamples.draws import draw, drawn, leap_draw
from samesamples.errors import BadText
from samesamples.kinds import is_name, is_number, is_quotient, is_sound
from samesamples.quotients import floor_of, minus, over, quotient_of
from samesamples.tempos import beat_of, sample_of, time_of
from samesamples.tunings import pitch_of, ratio_at
from samesamples.values import is_value
from samesamples.wholes import turned
from helpers import Case


class Numbers(Case):
    def test_kinds(self):
        told = is_name("a1"), is_name("1a"), is_number(True), is_sound((3, -4)), is_quotient((2, 4))
        self.same(told, (True, False, False, True, False))

    def test_wholes(self):
        told = turned(-7, 2, "down"), turned(-7, 2, "near"), turned(-7, 2, "zero"), turned(7, 2, "near")
        self.same(told, (-4, -3, -3, 4))

    def test_quotients(self):
        told = quotient_of(6, -4), quotient_of(0, -4), minus((1, 2), (2, 3)), over((1, 2), (-1, 3)), floor_of((-3, 2))
        self.same(told, ((-3, 2), (0, 1), (-1, 6), (-3, 2), -2))

    def test_draws(self):
        self.same((draw(9), drawn(2 ** 31, 1), leap_draw(9, 2)), (1028884948, 0, 407595811))


class Sounding(Case):
    def test_curves(self):
        self.same((curve_at(((0, 0), (4, -10)), 1), curve_at(((0, 0), (4, -10)), 9)), (-3, -10))

    def test_tempos(self):
        fast = (((0, 1), (3, 1)), ((2, 1), (1, 2)))
        self.same((time_of(fast, (3, 1)), beat_of(fast, (13, 2)), sample_of(fast, (3, 1))), ((13, 2), (3, 1), 6))

    def test_tunings(self):
        self.same(ratio_at((1000, ((9, 8), (2, 1))), 3), (9, 4))
        self.same(pitch_of((1000, ((9, 8), (2, 1))), -1), 562)


class Values(Case):
    def test_values(self):
        self.same((is_value((None, True, -5, "a\nb", ())), is_value("a;b"), is_value([1])), (True, False, False))

    def test_texts(self):
        self.same(text_of((None, True, -5, "a\nb", ())), "(nti-5;sa|b;())")
        self.same(value_of("(i0;(s;))"), (0, ("",)))
        self.raises(BadText, (0,), value_of, "i-0;")
