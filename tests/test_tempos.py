"""Tempos [18], and what follows [22]."""

from fractions import Fraction
from math import floor

from samesamples.quotients import less
from samesamples.tempos import beat_of, is_tempo, sample_of, time_of
from helpers import ANYTHING, Case, drawing, fraction, quotient

FAST = (((0, 1), (3, 1)), ((2, 1), (1, 2)))


def plain_time(tempo, beat):
    """The time, stretch by stretch."""
    total = Fraction(0)
    for at, (start, pace) in enumerate(tempo):
        end = fraction(tempo[at + 1][0]) if at + 1 < len(tempo) else beat
        total += max(Fraction(0), min(end, beat) - fraction(start)) * fraction(pace)
    return total


def drawn_tempo(source, many):
    beats = {Fraction(0)}
    while len(beats) < many:
        beats.add(Fraction(source.randint(1, 400), source.randint(1, 64)))
    return tuple(
        (quotient(beat), quotient(Fraction(source.randint(1, 1000), source.randint(1, 64)))) for beat in sorted(beats)
    )


class Tempos(Case):
    def test_is_tempo(self):
        self.only(is_tempo, ())
        for tempo in (
            (((0, 1), (1, 1)),), FAST, (((0, 1), (10 ** 5, 1)), ((1, 64), (1, 64))), (((0, 1), (1, 1)), ((10 ** 6, 1), (1, 1))),
            tuple(((at, 1), (1, 1)) for at in range(40)),
        ):
            self.assertIs(is_tempo(tempo), True, repr(tempo))
        start = ((0, 1), (1, 1))
        for tempo in (
            (((1, 1), (1, 1)),), (start, start), (start, ((2, 1), (1, 1)), ((1, 1), (1, 1))), (((0, 1), (0, 1)),),
            (((0, 1), (-1, 1)),), (((0, 1), (10 ** 5 + 1, 1)),), (((0, 1), (1, 65)),), (start, ((1, 65), (1, 1))),
            (start, ((10 ** 6 + 1, 1), (1, 1))), (((0, 2), (1, 1)),), (((0, 1), (2, 2)),), (((0, True), (1, 1)),),
            (((False, 1), (1, 1)),), [start], ([(0, 1), (1, 1)],), (((0, 1), (1, 1), (1, 1)),), ((0, 1), (1, 1)),
            (start, ((-1, 1), (1, 1))), (((0, 1), (True, 1)),), (),
            tuple(((at, 1), (1, 1)) for at in range(41)),
        ):
            self.assertIs(is_tempo(tempo), False, repr(tempo))

    def test_at_between_and_behind_the_pairs(self):
        for beat, told in (((0, 1), (0, 1)), ((1, 3), (1, 1)), ((2, 1), (6, 1)), ((5, 2), (25, 4)), ((1000, 1), (505, 1))):
            self.same(time_of(FAST, beat), told)
            self.same(beat_of(FAST, told), beat)
        self.same((sample_of(FAST, (5, 2)), sample_of(FAST, (0, 1)), sample_of(FAST, (2, 1))), (6, 0, 6))

    def test_drawn_tempos(self):
        source = drawing(18)
        for many in (1, 2, 5, 40):
            for _ in range(3):
                tempo = drawn_tempo(source, many)
                self.assertIs(is_tempo(tempo), True)
                beats = [quotient(Fraction(source.randint(0, 500), source.randint(1, 64))) for _ in range(30)]
                for beat in beats + [pair[0] for pair in tempo]:
                    time = time_of(tempo, beat)
                    self.same(time, quotient(plain_time(tempo, fraction(beat))))
                    self.same(sample_of(tempo, beat), floor(fraction(time)))
                    self.same(beat_of(tempo, time), beat)
                    self.same(time_of(tempo, beat_of(tempo, beat)), beat)
                    for other in beats:
                        self.assertIs(less(time, time_of(tempo, other)), less(beat, other))

    def test_far_out(self):
        beat = (10 ** 59 + 1, 7)
        self.same(time_of(FAST, beat), quotient(plain_time(FAST, fraction(beat))))
        self.same(beat_of(FAST, time_of(FAST, beat)), beat)

    def test_wrong_inputs(self):
        for thing in ANYTHING + ((-1, 2), (0, 2), (True, 1), [1, 2]):
            if thing not in ((0, 1), (1, 2)) or isinstance(thing, list):
                self.refuses("beat", time_of, FAST, thing)
                self.refuses("time", beat_of, FAST, thing)
                self.refuses("beat", sample_of, FAST, thing)
        self.same(sample_of(beat=(3, 1), tempo=FAST), 6)
        self.same(beat_of(time=(3, 1), tempo=FAST), (1, 1))
