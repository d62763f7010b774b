"""Leaps [41], and what follows [42]."""

from samesamples.leaps import leap_of
from samesamples.states import is_state, start_of
from samesamples.steps import block_of
from boxes import GREATEST, KNOBS, TOP, all_settled, drawn_knobs, drawn_state
from helpers import ANYTHING, Case, drawing

LEAPING = ("level", "clock", "noise", "wave", "roll", "reel")
FAR = 10 ** 30


def stepped(kind, knobs, state, many):
    given = ((0,) * many,) if kind == "wave" else ()
    return block_of(kind, knobs, state, given, many)[0]


class Leaps(Case):
    def test_so_many_steps(self):
        source = drawing(41)
        for kind in LEAPING:
            for _ in range(80):
                knobs = drawn_knobs(source, kind)
                if kind == "clock" and source.randint(0, 1):
                    knobs = tuple(source.choice((0, 1, 2, 3, 7, TOP - 2, TOP - 1, TOP)) for _ in range(3))
                state = drawn_state(source, kind, knobs)
                if kind in GREATEST and source.randint(0, 2) == 0:
                    state = max(0, GREATEST[kind] - source.randint(0, 4))
                for many in (0, 1, 2, 3, 5, 8, source.randint(0, 60), source.randint(0, 400)):
                    self.same(leap_of(kind, knobs, state, many), stepped(kind, knobs, state, many))

    def test_each_small_clock(self):
        for low in range(5):
            for high in range(6):
                for pos in range(7):
                    for many in range(14):
                        knobs = (0, low, high)
                        self.same(leap_of("clock", knobs, pos, many), stepped("clock", knobs, pos, many))

    def test_two_leaps_are_the_one_of_both(self):
        source = drawing(43)
        for kind in LEAPING:
            for _ in range(60):
                knobs = drawn_knobs(source, kind)
                state = drawn_state(source, kind, knobs)
                one, other = source.randint(0, 10 ** source.randint(0, 29)), source.randint(0, 10 ** source.randint(0, 29))
                between = leap_of(kind, knobs, state, one)
                self.assertIs(is_state(kind, knobs, between), True)
                self.same(leap_of(kind, knobs, between, other), leap_of(kind, knobs, state, one + other))

    def test_far(self):
        for kind, knobs, state, told in (
            ("level", (5,), 0, 0), ("clock", (0, 0, 3), 0, 1), ("clock", (0, 0, 0), 0, TOP), ("clock", (0, 9, 4), 1, TOP),
            ("clock", (0, 4, TOP), TOP, TOP), ("clock", (0, 4, 6), 6, TOP), ("clock", (0, TOP, TOP), 0, TOP),
            ("wave", ((1, 2, 3), -1, 7), 0, -FAR % 21), ("wave", ((1, 2, 3), 2 ** 20, 7), 20, (20 + FAR * 2 ** 20) % 21),
            ("roll", ((1,),), 0, 2 ** 20), ("reel", ((1,), 1, 1), 0, 2 ** 32), ("reel", ((1,), 0, 1), 77, 77),
        ):
            self.same(leap_of(kind, knobs, state, FAR), told)
        # Noise comes round behind 2 ** 32 draws.
        self.same(leap_of("noise", (0, 5), 3, FAR), leap_of("noise", (0, 5), 3, FAR % 2 ** 32))

    def test_leaps_of_nought(self):
        for kind, knobs in all_settled():
            if kind in LEAPING:
                self.same(leap_of(kind, knobs, start_of(kind, knobs), 0), start_of(kind, knobs))

    def test_kinds_that_do_not_leap(self):
        for kind, knobs in all_settled():
            if kind not in LEAPING:
                self.refuses("kind", leap_of, kind, knobs, start_of(kind, knobs), 1)
                self.refuses("kind", leap_of, kind, None, None, None)
        for thing in ANYTHING + (["level"], ("level",), "Level", "feed"):
            self.refuses("kind", leap_of, thing, (5,), 0, 1)

    def test_wrong_inputs(self):
        for kind in LEAPING:
            for knobs in KNOBS[kind]:
                start = start_of(kind, knobs)
                self.refuses("knobs", leap_of, kind, knobs + (0,), None, None)
                self.refuses("knobs", leap_of, kind, list(knobs), start, 1)
                for state in (-1, None, True, (), "0", 2 ** 32 + 1):
                    self.refuses("state", leap_of, kind, knobs, state, None)
                for many in (-1, None, True, False, (), "0", [1]):
                    self.refuses("many", leap_of, kind, knobs, start, many)
        self.same(leap_of(kind="roll", knobs=((),), state=3, many=4), 7)
