"""The states of boxes [33] to [36], [39], and what follows [42]."""

from samesamples.boxkinds import shape_of
from samesamples.states import is_state, start_of
from boxes import GREATEST, KNOBS, ONE, TOP, all_settled, drawn_knobs, drawn_state, kept, settled
from helpers import ANYTHING, Case, drawing

VOICES = ((), 2, "never", (0, 5), 3, 1)
VOICE = (1, 0, 0, 1, 0)


class States(Case):
    def test_starts(self):
        starts = {"clock": lambda knobs: knobs[0], "noise": lambda knobs: knobs[0], "voices": lambda knobs: (),
                  "second": lambda knobs: (0, 0, 0, 0), "taps": lambda knobs: (0,) * (len(knobs[0]) - 1),
                  "peak": lambda knobs: (0,) * (knobs[0] - 1), "mean": lambda knobs: (0,) * (knobs[0] - 1)}
        for kind, knobs in all_settled():
            told = starts[kind](knobs) if kind in starts else 0
            self.same(start_of(kind, knobs), told)
            self.assertIs(is_state(kind, knobs, told), True)

    def test_single_numbers(self):
        for kind, knobs in all_settled():
            if kept(kind, knobs) is not None or kind == "voices":
                continue
            low = -TOP if kind in ("smooth", "latch") else 0
            high = TOP if kind in ("smooth", "latch") else GREATEST.get(kind, 0)
            if kind == "wave":
                high = len(knobs[0]) * knobs[2] - 1
            for state in (low, 0, high):
                self.assertIs(is_state(kind, knobs, state), True, (kind, state))
            for state in (low - 1, high + 1):
                self.assertIs(is_state(kind, knobs, state), False, (kind, state))
            for thing in ANYTHING:
                if not isinstance(thing, int) or isinstance(thing, bool):
                    self.assertIs(is_state(kind, knobs, thing), False, (kind, thing))

    def test_tuples_of_worths(self):
        for kind, knobs in all_settled():
            many = kept(kind, knobs)
            if many is None:
                continue
            low = 0 if kind == "peak" else -TOP
            for worth, told in ((low, True), (TOP, True), (low - 1, False), (TOP + 1, False), (True, False), (None, False), ((), False)):
                self.assertIs(is_state(kind, knobs, (worth,) * many), told or many == 0, (kind, many, worth))
                self.assertIs(is_state(kind, knobs, (0,) * (many - 1) + (worth,)), told and many > 0, (kind, many, worth))
            self.assertIs(is_state(kind, knobs, [0] * many), False)
            self.assertIs(is_state(kind, knobs, (0,) * (many + 1)), False)
            self.assertIs(is_state(kind, knobs, 0), False)
            if many > 0:
                self.assertIs(is_state(kind, knobs, (0,) * (many - 1)), False)

    def test_voices(self):
        def has(*voices):
            return is_state("voices", VOICES, voices)

        for voice in (VOICE, (2 ** 20, 2 * ONE - 1, 10 ** 59, 10 ** 59, ONE)):
            self.assertIs(has(voice), True)
            self.assertIs(has(voice, VOICE), True)
            self.assertIs(has(voice, VOICE, VOICE), False)
        beyond = ((0, 2 ** 20 + 1, True, None), (-1, 2 * ONE, False, "0"), (-1, False, None), (0, -1, True, ()), (-1, ONE + 1, False))
        for at, wrong in enumerate(beyond):
            for thing in wrong:
                self.assertIs(has(VOICE[:at] + (thing,) + VOICE[at + 1:]), False, (at, thing))
        for thing in (VOICE[:4], VOICE + (0,), list(VOICE), None, 0, ()):
            self.assertIs(has(thing), False, repr(thing))
            self.assertIs(has(VOICE, thing), False, repr(thing))
        for thing in ANYTHING:
            self.assertIs(is_state("voices", VOICES, thing), thing == () and isinstance(thing, tuple), repr(thing))
        self.assertIs(is_state("voices", VOICES, [VOICE]), False)

    def test_drawn_states(self):
        source = drawing(39)
        for kind in KNOBS:
            for _ in range(30):
                knobs, other = drawn_knobs(source, kind), drawn_knobs(source, kind)
                state = drawn_state(source, kind, knobs)
                self.assertIs(is_state(kind, knobs, state), True, (kind, knobs, state))
                if shape_of(kind, knobs) == shape_of(kind, other):
                    self.assertIs(is_state(kind, other, state), True, (kind, other, state))

    def test_wrong_inputs(self):
        for kind, rows in KNOBS.items():
            for wrong in (rows[0] + (0,), list(settled(kind, rows[0])), None, 0, "latch", ((),) * 7):
                self.refuses("knobs", start_of, kind, wrong)
                self.refuses("knobs", is_state, kind, wrong, 0)
        for knobs in KNOBS["voices"]:
            self.refuses("knobs", start_of, "voices", knobs)
            self.refuses("knobs", is_state, "voices", knobs, ())
        self.same(start_of(knobs=(3,), kind="peak"), (0, 0))
        self.same(is_state(thing=(0, 0), knobs=(3,), kind="peak"), True)
