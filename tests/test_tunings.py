"""Tunings [19], and what follows [22]."""

from fractions import Fraction
from math import floor

from samesamples.errors import KeyAway
from samesamples.tunings import is_tuning, pitch_of, ratio_at
from helpers import ANYTHING, Case, drawing, fraction, quotient

MANY = 2 ** 20


def plain_ratio(tuning, key):
    ratios = [fraction(ratio) for ratio in tuning[1]]
    octave, degree = key // len(ratios), key % len(ratios)
    return ratios[-1] ** octave * ([Fraction(1)] + ratios)[degree]


class Tunings(Case):
    def test_is_tuning(self):
        self.only(is_tuning, ())
        for tuning in ((1, ((2, 1),)), (MANY, ((4096, 1), (1, 4096))), (5, ((1, 1),) * 24), (9, ((2, 1), (1, 2), (2, 1)))):
            self.assertIs(is_tuning(tuning), True, repr(tuning))
        for tuning in (
            (0, ((2, 1),)), (MANY + 1, ((2, 1),)), (True, ((2, 1),)), (1, ()), (1, ((1, 1),) * 25), (1, ((0, 1),)),
            (1, ((-1, 1),)), (1, ((4097, 1),)), (1, ((1, 4097),)), (1, ((2, 2),)), (1, [(2, 1)]), [1, ((2, 1),)],
            (1, ([2, 1],)), (1, ((2, 1),), 0), (1, (2, 1)), ("1", ((2, 1),)), (1, ((True, 1),)), (1,),
        ):
            self.assertIs(is_tuning(tuning), False, repr(tuning))

    def test_octaves(self):
        for many in (1, 2, 7, 24):
            tuning = (1000, ((5, 4),) * (many - 1) + ((3, 2),))
            for octave in range(-10, 11):
                for degree in (0, many // 2, many - 1):
                    key = octave * many + degree
                    if -8 <= octave <= 8:
                        self.same(ratio_at(tuning, key), quotient(plain_ratio(tuning, key)))
                    else:
                        self.raises(KeyAway, (key,), ratio_at, tuning, key)
                        self.raises(KeyAway, (key,), pitch_of, tuning, key)

    def test_drawn_tunings(self):
        source = drawing(19)
        for _ in range(60):
            many = source.randint(1, 24)
            ratios = tuple(quotient(Fraction(source.randint(1, 64), source.randint(1, 64))) for _ in range(many))
            tuning = (source.randint(1, MANY), ratios)
            self.assertIs(is_tuning(tuning), True)
            for key in range(-8 * many, 9 * many, 3):
                exact = plain_ratio(tuning, key)
                self.same(ratio_at(tuning, key), quotient(exact))
                if key + many < 9 * many:
                    self.assertEqual(fraction(ratio_at(tuning, key + many)), fraction(ratios[-1]) * exact)
                pitch = floor(tuning[0] * exact)
                if 1 <= pitch <= MANY:
                    self.same(pitch_of(tuning, key), pitch)
                else:
                    self.raises(KeyAway, (key,), pitch_of, tuning, key)

    def test_floors_of_one_and_the_greatest(self):
        self.same(pitch_of((256, ((2, 1),)), -8), 1)
        self.raises(KeyAway, (-8,), pitch_of, (255, ((2, 1),)), -8)
        self.same(pitch_of((4096, ((2, 1),)), 8), MANY)
        self.raises(KeyAway, (8,), pitch_of, (4097, ((2, 1),)), 8)
        self.same(pitch_of((MANY, ((4096, 4095), (2, 1))), 0), MANY)
        self.raises(KeyAway, (1,), pitch_of, (MANY, ((4096, 4095), (2, 1))), 1)
        self.same(pitch_of((3, ((1, 2),)), 1), 1)
        self.raises(KeyAway, (2,), pitch_of, (3, ((1, 2),)), 2)

    def test_wrong_inputs(self):
        for thing in ANYTHING:
            if not isinstance(thing, int) or isinstance(thing, bool):
                self.refuses("key", ratio_at, (1000, ((2, 1),)), thing)
                self.refuses("key", pitch_of, (1000, ((2, 1),)), thing)
        far = 10 ** 59
        self.raises(KeyAway, (far,), pitch_of, (1000, ((2, 1),)), far)
        self.raises(KeyAway, (-far,), ratio_at, (1000, ((2, 1),)), -far)
        self.same(pitch_of(key=1, tuning=(1000, ((2, 1),))), 2000)
