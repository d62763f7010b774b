"""Steps and blocks of the twenty-two kinds [33] to [36], [40], and what follows [42], (G11)."""

from samesamples.knobkinds import is_settled
from samesamples.states import is_state, start_of
from samesamples.steps import block_of, one_step
from boxes import (
    KNOBS, MODES, ONE, RULES, TOP, all_settled, columns, drawn_knobs, drawn_state, drawn_worth, plain_block, plain_step,
)
from helpers import ANYTHING, Case, drawing


def told_by(kind, knobs, *given, state=None, many=None):
    """The sound of a block."""
    state = start_of(kind, knobs) if state is None else state
    return block_of(kind, knobs, state, given, len(given[0]) if many is None else many)[1]


class Makers(Case):
    def test_level_and_feed(self):
        self.same(block_of("level", (-TOP,), 0, (), 3), (0, (-TOP,) * 3))
        self.same(one_step("feed", (2,), 0, (-7,)), (0, -7))
        self.same(block_of("feed", (3,), 0, ((1, TOP, -TOP),), 3), (0, (1, TOP, -TOP)))

    def test_clock(self):
        for knobs, state, told, behind in (
            ((0, 0, 3), 0, (0, 1, 2, 0, 1), 2), ((5, 2, 7), 5, (5, 6, 2, 3, 4), 5), ((0, 0, 1), 0, (0, 0, 0, 0, 0), 0),
            ((0, 0, 0), 0, (0, 1, 2, 3, 4), 5), ((0, 9, 3), 0, (0, 1, 2, 9, 10), 11), ((0, 3, 3), 1, (1, 2, 3, 4, 5), 6),
            ((0, 0, 9), 9, (9, 10, 11, 12, 13), 14), ((0, 0, 0), TOP - 2, (TOP - 2, TOP - 1, TOP, TOP, TOP), TOP),
            ((0, 4, TOP), TOP - 2, (TOP - 2, TOP - 1, 4, 5, 6), 7), ((0, TOP, TOP), TOP - 2, (TOP - 2, TOP - 1, TOP, TOP, TOP), TOP),
            ((0, 4, TOP), TOP, (TOP,) * 5, TOP), ((0, TOP, 1), 0, (0, TOP, TOP, TOP, TOP), TOP),
        ):
            self.same(block_of("clock", knobs, state, (), 5), (behind, told))

    def test_noise(self):
        self.same(one_step("noise", (9, 1), 9, ()), (1028884948, -1))
        state, sound = 9, []
        for _ in range(50):
            state = (1664525 * state + 1013904223) % 2 ** 32
            sound.append(state * (2 * TOP + 1) // 2 ** 32 - TOP)
        self.same(block_of("noise", (9, TOP), 9, (), 50), (state, tuple(sound)))
        self.same(told_by("noise", (2 ** 32 - 1, 0), many=4), (0, 0, 0, 0))

    def test_wave(self):
        self.same(block_of("wave", ((0, 8), 1, 4), 0, ((0,) * 9,), 9), (1, (0, 2, 4, 6, 8, 6, 4, 2, 0)))
        self.same(block_of("wave", ((0, 10, -7), -1, 3), 0, ((0,) * 5,), 5), (4, (0, -3, -5, -7, -2)))
        self.same(block_of("wave", ((5,), 7, 3), 2, ((TOP, -TOP, 0),), 3)[1], (5, 5, 5))
        self.same(one_step("wave", ((1, 2, 3), -2 ** 20, 1), 1, (5,)), ((1 - 2 ** 20 + 5) % 3, 2))
        self.same(one_step("wave", ((1, 2, 3), 2 ** 20, 1), 2, (-TOP,)), ((2 + 2 ** 20 - TOP) % 3, 3))
        self.same(one_step("wave", ((TOP, -TOP), 0, 4096), 4095, (1,)), (4096, TOP + (-2 * TOP * 4095) // 4096))

    def test_roll(self):
        self.same(block_of("roll", ((5, -6),), 0, (), 4), (4, (5, -6, 0, 0)))
        self.same(block_of("roll", ((),), 0, (), 2), (2, (0, 0)))
        self.same(block_of("roll", ((5,),), 2 ** 20 - 1, (), 3), (2 ** 20, (0, 0, 0)))

    def test_reel(self):
        self.same(block_of("reel", ((8, -4), 1, 4), 0, (), 9), (9, (8, 5, 2, -1, -4, -3, -2, -1, 0)))
        self.same(block_of("reel", ((1, 2, 3), 2, 1), 0, (), 3), (6, (1, 3, 0)))
        self.same(block_of("reel", ((1, 2, 3), 0, 1), 1, (), 3), (1, (2, 2, 2)))
        self.same(one_step("reel", ((-5,), 3, 2), 1, ()), (4, -3))
        self.same(one_step("reel", ((), 5, 3), 7, ()), (12, 0))
        self.same(one_step("reel", ((9,), 2 ** 20, 1), 2 ** 32 - 1, ()), (2 ** 32, 0))
        self.same(one_step("reel", ((9,), 2 ** 20, 4096), 2 ** 32, ()), (2 ** 32, 0))


class Shapers(Case):
    def test_mix(self):
        for knobs, worths, told in (
            (((), -9), (), -9), (((4096, 2048), 3), (10, 7), 17), (((2048,), 0), (-1,), 0), (((2048,), 0), (-3,), -1),
            (((2048,), 0), (1,), 1), (((65536,) * 8, 0), (TOP,) * 8, TOP), (((-65536,) * 8, 0), (TOP,) * 8, -TOP),
            (((4096,), TOP), (1,), TOP), (((4096, -4096), TOP), (TOP, TOP), TOP), (((4096,), -TOP), (TOP,), 0),
        ):
            self.same(one_step("mix", knobs, 0, worths), (0, told))

    def test_gain(self):
        for mode, worths, told in (
            ("down", (-1, 2048), -1), ("near", (-1, 2048), 0), ("zero", (-1, 2048), 0), ("near", (1, 2048), 1),
            ("down", (TOP, TOP), TOP), ("near", (TOP, -TOP), -TOP), ("zero", (-3, 2048), -1), ("near", (-3, 2048), -1),
            ("down", (-3, 2048), -2), ("near", (7, 4096), 7),
        ):
            self.same(one_step("gain", (mode,), 0, worths), (0, told))

    def test_cross(self):
        for mode, worths, told in (
            ("near", (3, 9, 0), 3), ("near", (3, 9, ONE), 9), ("near", (3, 9, TOP), 9), ("near", (3, 9, -TOP), 3),
            ("down", (0, -1, 2048), -1), ("near", (0, -1, 2048), 0), ("zero", (0, -1, 2048), 0), ("near", (0, 1, 2048), 1),
            ("zero", (10, -11, 2048), 0), ("down", (10, -11, 2048), -1), ("zero", (TOP, -TOP, ONE), -TOP), ("down", (-TOP, TOP, 2048), 0),
        ):
            self.same(one_step("cross", (mode,), 0, worths), (0, told))

    def test_cross_stays_between(self):
        source = drawing(34)
        for _ in range(500):
            a, b = drawn_worth(source), drawn_worth(source)
            told = one_step("cross", (source.choice(MODES),), 0, (a, b, source.randint(-100, ONE + 100)))[1]
            self.assertTrue(min(a, b) <= told <= max(a, b))

    def test_fence_punch_latch(self):
        self.same(told_by("fence", (5,), (4, 5, 6, -5, -6, TOP, -TOP, 0)), (4, 5, 5, -5, -5, 5, -5, 0))
        self.same(told_by("fence", (0,), (4, -4)), (0, 0))
        self.same(told_by("punch", (2, 4), (1, 2, 3, 4, -2), (10,) * 5, (20,) * 5), (10, 20, 20, 10, 10))
        self.same(told_by("punch", (4, 2), (1, 2, 3, 4), (10,) * 4, (20,) * 4), (10,) * 4)
        self.same(told_by("punch", (3, 3), (3,), (10,), (20,)), (10,))
        self.same(block_of("latch", (), 7, ((1, 2, 3, 4), (0, 5, -5, 1)), 4), (4, (7, 2, 2, 4)))
        self.same(one_step("latch", (), -TOP, (TOP, 0)), (-TOP, -TOP))

    def test_curve_and_tape(self):
        points = ((-2, 5), (2, -5), (3, TOP))
        self.same(told_by("curve", (points,), (-TOP, -3, -2, -1, 0, 1, 2, 3, TOP)), (5, 5, 5, 2, 0, -3, -5, TOP, TOP))
        self.same(told_by("tape", ((7, 8), 3), (-3, 2, 3, 4, 5, TOP, -TOP)), (0, 0, 7, 8, 0, 0, 0))
        self.same(told_by("tape", ((7,), TOP), (TOP, TOP - 1, 0)), (7, 0, 0))
        self.same(told_by("tape", ((), 0), (0, 1)), (0, 0))
        self.same(told_by("tape", ((7, 8), 0), (-1, -2, 0)), (0, 0, 7))


class Filters(Case):
    def test_smooth(self):
        self.same(block_of("smooth", (2048, "near"), 0, ((5, 5, 5, 5),), 4), (5, (3, 4, 5, 5)))
        self.same(block_of("smooth", (2048, "down"), 0, ((5, 5, 5, 5),), 4), (4, (2, 3, 4, 4)))
        self.same(block_of("smooth", (2048, "zero"), 0, ((-5, -5, -5, -5),), 4), (-4, (-2, -3, -4, -4)))
        self.same(block_of("smooth", (2048, "down"), 0, ((-5, -5, -5),), 3), (-5, (-3, -4, -5)))
        self.same(block_of("smooth", (0, "near"), 9, ((TOP, -TOP),), 2), (9, (9, 9)))
        self.same(block_of("smooth", (ONE, "near"), TOP, ((-TOP, TOP),), 2), (TOP, (-TOP, TOP)))

    def test_smooth_stays_between(self):
        source = drawing(35)
        for _ in range(500):
            state, x = drawn_worth(source), drawn_worth(source)
            told = one_step("smooth", (source.randint(0, ONE), source.choice(MODES)), state, (x,))[1]
            self.assertTrue(min(state, x) <= told <= max(state, x))

    def test_second(self):
        self.same(one_step("second", (4096, 0, 0, 0, 0, "near"), (1, 2, 3, 4), (9,)), ((9, 1, 9, 3), 9))
        self.same(one_step("second", (0, 4096, 0, 0, 0, "near"), (1, 2, 3, 4), (9,)), ((9, 1, 1, 3), 1))
        self.same(one_step("second", (0, 0, 4096, 0, 0, "near"), (1, 2, 3, 4), (9,)), ((9, 1, 2, 3), 2))
        self.same(one_step("second", (0, 0, 0, 4096, 0, "near"), (1, 2, 3, 4), (9,)), ((9, 1, -3, 3), -3))
        self.same(one_step("second", (0, 0, 0, 0, 4096, "near"), (1, 2, 3, 4), (9,)), ((9, 1, -4, 3), -4))
        for mode, told in (("down", -1), ("near", 0), ("zero", 0)):
            self.same(one_step("second", (2048, 0, 0, 0, 0, mode), (0, 0, 0, 0), (-1,)), ((-1, 0, told, 0), told))
        weights = (65536, -65536, 65536, 65536, -65536)
        self.same(one_step("second", weights + ("zero",), (-TOP, TOP, -TOP, TOP), (TOP,))[1], TOP)
        self.same(one_step("second", weights + ("zero",), (TOP, -TOP, TOP, -TOP), (-TOP,)), ((-TOP, TOP, -TOP, TOP), -TOP))

    def test_taps(self):
        self.same(block_of("taps", ((4096, 0, -8192),), (7, 8), ((1, 2, 3),), 3), ((3, 2), (1 - 16, 2 - 14, 3 - 2)))
        self.same(block_of("taps", ((2048,),), (), ((-1, 1, 3, -3),), 4), ((), (0, 1, 2, -1)))
        self.same(told_by("taps", ((65536,) * 16,), (TOP,) * 3), (TOP,) * 3)
        self.same(told_by("taps", ((-65536,) * 16,), (TOP,) * 3), (-TOP,) * 3)

    def test_press(self):
        for knobs, state, worths, told in (
            ((100, 0, 1, ONE, ONE), 0, (50, 200), (200, 25)), ((100, 0, 1, ONE, ONE), 0, (50, -200), (200, 25)),
            ((100, 0, 1, ONE, ONE), 0, (50, 100), (100, 50)), ((100, 1, 1, ONE, ONE), 0, (50, 200), (200, 50)),
            ((100, 1, 2, ONE, ONE), 0, (-50, 200), (200, -37)), ((0, 0, 1, ONE, ONE), 0, (TOP, TOP), (TOP, 0)),
            ((0, 1, 3, 0, 0), 10, (7, 0), (10, 2)), ((0, 0, 1, 2048, 0), 10, (7, 15), (12, 0)),
            ((5, 0, 1, 0, 2048), 10, (7, 3), (7, 5)), ((TOP, 0, 1, 1, 1), 9, (-TOP, 9), (9, -TOP)),
            ((8, 0, 1, 0, ONE), 10, (-7, 0), (0, -7)),
        ):
            self.same(one_step("press", knobs, state, worths), told)

    def test_press_is_never_louder(self):
        source = drawing(36)
        for _ in range(500):
            knobs, x = drawn_knobs(source, "press"), drawn_worth(source)
            state, told = one_step("press", knobs, drawn_state(source, "press", knobs), (x, drawn_worth(source)))
            self.assertLessEqual(abs(told), abs(x))
            self.assertTrue(0 <= state <= TOP)

    def test_peak_and_mean(self):
        self.same(block_of("peak", (3,), (4, 9), ((-5, 2, 0, 0),), 4), ((0, 0), (9, 5, 5, 2)))
        self.same(block_of("peak", (1,), (), ((-5, 2),), 2), ((), (5, 2)))
        self.same(block_of("mean", (3,), (4, 9), ((-5, 2, 0, 4),), 4), ((4, 0), (3, 0, -1, 2)))
        self.same(block_of("mean", (2,), (-1,), ((0, 1, 0),), 3), ((0,), (0, 1, 1)))
        self.same(block_of("mean", (1,), (), ((-5, 2),), 2), ((), (-5, 2)))
        source = drawing(37)
        for many in (1, 2, 5, 256):
            sound = tuple(drawn_worth(source) for _ in range(300))
            line = (0,) * (many - 1) + sound
            self.same(told_by("peak", (many,), sound), tuple(max(map(abs, line[at:at + many])) for at in range(300)))
            mean = tuple((2 * sum(line[at:at + many]) + many) // (2 * many) for at in range(300))
            self.same(told_by("mean", (many,), sound), mean)


class Voices(Case):
    def one(self, notes, rule="never", most=1, table=(100,), attack=1, release=1, state=(), poses=(0,)):
        return block_of("voices", (notes, most, rule, table, attack, release), state, (poses,), len(poses))

    def test_strengths(self):
        notes = ((0, 6, 4096, ONE),)
        self.same(self.one(notes, attack=4, table=(4096,), poses=tuple(range(8)))[1], (1024, 2048, 3072, 4096, 4096, 4096, 0, 0))
        self.same(self.one(notes, release=4, table=(4096,), poses=tuple(range(8)))[1], (4096, 4096, 4096, 3072, 2048, 1024, 0, 0))
        self.same(self.one(((0, 3, 1, 1),), table=(TOP, -TOP), poses=(0, 1, 2))[1], (255, 255, 255))
        self.same(self.one(((0, 9, 1, 0),), table=(TOP,), poses=(0, 1))[1], (0, 0))
        # Floors go down: a strength of 1 tells -1 of a worth just below 0.
        self.same(self.one(((0, 1, 1, 1),), table=(-1,))[1], (-1,))

    def test_phases(self):
        told = self.one(((0, 9, 2048, ONE),), table=(0, 100, 50), poses=(0,) + (5,) * 7)
        self.same(told[1], (0, 50, 100, 75, 50, 25, 0, 50))
        self.same(told[0], ((2048, 4096, 8, 1, ONE),))

    def test_notes_only_at_their_onset(self):
        notes = ((2, 1, 1, ONE), (2, 1, 1, ONE), (4, 1, 1, ONE))
        self.same(self.one(notes, most=9, poses=(-2, 0, 1, 2, 3, 4, 5, TOP, 4, 2))[1], (0, 0, 0, 200, 0, 100, 0, 0, 100, 200))
        self.same(self.one((), poses=(0, 1))[1], (0, 0))
        self.same(self.one(((10 ** 9, 1, 1, ONE),), poses=(TOP,)), ((), (0,)))

    def test_clipped(self):
        self.same(self.one(((0, 1, 1, ONE),) * 5, most=5, table=(TOP,))[1], (TOP,))
        self.same(self.one(((0, 1, 1, ONE),) * 5, most=5, table=(-TOP,))[1], (-TOP,))

    def test_rules_with_most_reached(self):
        # Three voices sound; their strengths are 3, 1 and 1, their pitches 7, 5 and 5.
        held = ((7, 0, 9, 50, 3), (5, 0, 9, 50, 1), (5, 0, 9, 50, 1))
        first, second, third = ((pitch, pitch, 10, 49, loud) for pitch, _, _, _, loud in held)
        for pitch, rule, left in (
            (5, "oldest", (second, third)), (5, "softest", (first, third)), (5, "same", (first, third)), (9, "same", (second, third)),
            (7, "same", (second, third)), (5, "never", None), (7, "softest", (first, third)),
        ):
            new = (pitch, pitch, 1, 8, 4)
            state, _ = self.one(((0, 9, pitch, 4),), rule=rule, most=3, state=held)
            self.same(state, (first, second, third) if left is None else left + (new,))
        for rule in RULES:
            state, _ = self.one(((0, 9, 5, 4),), rule=rule, most=4, state=held)
            self.same(state, (first, second, third, (5, 5, 1, 8, 4)))

    def test_softest_is_by_strength(self):
        # The loudest note is softest in its attack or at its end.
        held = ((1, 0, 0, 50, 4096), (2, 0, 9, 50, 2048), (3, 0, 9, 50, 2049))
        state, _ = self.one(((0, 9, 9, 1),), rule="softest", most=3, attack=10, state=held)
        self.same([voice[0] for voice in state], [2, 3, 9])
        held = ((1, 0, 50, 50, 300), (2, 0, 50, 2, 4096), (3, 0, 50, 50, 500))
        state, _ = self.one(((0, 9, 9, 1),), rule="softest", most=3, release=40, state=held)
        self.same([voice[0] for voice in state], [1, 3, 9])

    def test_chords(self):
        chord = tuple((0, 5, pitch, 10 * pitch) for pitch in (1, 2, 3, 2, 4))
        for rule, pitches in (("oldest", [2, 4]), ("softest", [3, 4]), ("same", [2, 4]), ("never", [1, 2])):
            state, _ = self.one(chord, rule=rule, most=2)
            self.same([voice[0] for voice in state], pitches)
        for rule, pitches in (("oldest", [3, 2, 4]), ("softest", [2, 3, 4]), ("same", [3, 2, 4]), ("never", [1, 2, 3])):
            state, _ = self.one(chord, rule=rule, most=3)
            self.same(sorted(voice[0] for voice in state), sorted(pitches))
        # With one note coming again and again the chord's own voices are taken by "same".
        state, _ = self.one(((0, 5, 1, 1), (0, 5, 2, 2), (0, 6, 2, 3)), rule="same", most=2)
        self.same(state, ((1, 1, 1, 4, 1), (2, 2, 1, 5, 3)))

    def test_by_never_each_sounds_to_its_end(self):
        source = drawing(46)
        for _ in range(40):
            knobs = drawn_knobs(source, "voices")
            knobs = knobs[:2] + ("never",) + knobs[3:]
            state = start_of("voices", knobs)
            for pos in range(14):
                behind, _ = one_step("voices", knobs, state, (pos,))
                left = [(pitch, age + 1, more - 1) for pitch, _, age, more, _ in state if more > 1]
                self.same([(pitch, age, more) for pitch, _, age, more, _ in behind][:len(left)], left)
                self.assertLessEqual(len(behind), knobs[1])
                state = behind

    def test_with_room_the_rules_tell_the_same(self):
        source = drawing(47)
        for _ in range(20):
            knobs = drawn_knobs(source, "voices")
            knobs = (knobs[0], 16) + knobs[2:]
            poses = tuple(range(20))
            told = [block_of("voices", knobs[:2] + (rule,) + knobs[3:], (), (poses,), 20) for rule in RULES]
            for other in told[1:]:
                self.same(other, told[0])


class Steps(Case):
    def test_drawn_steps(self):
        source = drawing(40)
        for kind in KNOBS:
            for _ in range(200):
                knobs = drawn_knobs(source, kind)
                state = drawn_state(source, kind, knobs)
                worths = tuple(drawn_worth(source) for _ in range(columns(kind, knobs)))
                told = one_step(kind, knobs, state, worths)
                self.same(told, plain_step(kind, knobs, state, worths))
                self.assertTrue(-TOP <= told[1] <= TOP)
                self.assertIs(is_state(kind, knobs, told[0]), True, (kind, knobs, state, worths))

    def test_at_the_ends_of_knobs_and_states(self):
        source = drawing(41)
        for kind, knobs in all_settled():
            for _ in range(20):
                state = drawn_state(source, kind, knobs)
                worths = tuple(source.choice((TOP, -TOP, 0, 1)) for _ in range(columns(kind, knobs)))
                told = one_step(kind, knobs, state, worths)
                self.same(told, plain_step(kind, knobs, state, worths))
                self.assertTrue(-TOP <= told[1] <= TOP)
                self.assertIs(is_state(kind, knobs, told[0]), True, (kind, knobs, state, worths))

    def test_wrong_inputs(self):
        for kind, knobs in all_settled():
            state = start_of(kind, knobs)
            worths = (0,) * columns(kind, knobs)
            self.same(one_step(kind=kind, knobs=knobs, state=state, worths=worths), plain_step(kind, knobs, state, worths))
            self.refuses("knobs", one_step, kind, knobs + (0,), None, None)
            self.refuses("knobs", one_step, kind, list(knobs), None, None)
            for thing in ANYTHING:
                if not is_settled(kind, thing):
                    self.refuses("knobs", one_step, kind, thing, None, None)
                if not is_state(kind, knobs, thing):
                    self.refuses("state", one_step, kind, knobs, thing, None)
                    self.refuses("state", block_of, kind, knobs, thing, None, -1)
            wrongs = [worths + (0,), list(worths), None, 0, (0,) * 9]
            if worths:
                wrongs += [worths[:-1], worths[:-1] + (None,), worths[:-1] + (TOP + 1,), worths[:-1] + (False,)]
            for wrong in wrongs:
                self.refuses("worths", one_step, kind, knobs, state, wrong)
        self.refuses("knobs", one_step, "voices", ("s", 1, "never", (0,), 1, 1), (), (0,))
        self.refuses("worths", one_step, "feed", (0,), 0, ())
        self.refuses("worths", one_step, "level", (0,), 0, (0,))


class Blocks(Case):
    def test_cut_in_pieces(self):
        source = drawing(42)
        for kind in KNOBS:
            for _ in range(12):
                knobs = drawn_knobs(source, kind)
                start = drawn_state(source, kind, knobs)
                many = source.randint(0, 25)
                given = tuple(tuple(drawn_worth(source) for _ in range(many)) for _ in range(columns(kind, knobs)))
                whole = block_of(kind, knobs, start, given, many)
                self.same(whole, plain_block(kind, knobs, start, given, many))
                state, told, low = start, (), 0
                while low < many:
                    high = min(many, low + source.randint(0, 9))
                    state, more = block_of(kind, knobs, state, tuple(column[low:high] for column in given), high - low)
                    told, low = told + more, high
                self.same((state, told), whole)
                state, told = start, []
                for at in range(many):
                    state, worth = one_step(kind, knobs, state, tuple(column[at] for column in given))
                    told.append(worth)
                self.same((state, tuple(told)), whole)

    def test_many_without_columns(self):
        for kind, knobs in all_settled():
            if columns(kind, knobs) == 0:
                start = start_of(kind, knobs)
                self.same(block_of(kind, knobs, start, (), 0), (start, ()))
                self.same(len(block_of(kind, knobs, start, (), 2000)[1]), 2000)
                for wrong in (-1, 2001, True, None, "1", (1,), [1]):
                    self.refuses("many", block_of, kind, knobs, start, (), wrong)

    def test_many_with_columns(self):
        for kind, knobs in all_settled():
            width = columns(kind, knobs)
            if width == 0:
                continue
            start = start_of(kind, knobs)
            self.same(block_of(kind, knobs, start, ((),) * width, 0), (start, ()))
            for wrong in (1, -1, True, False, None, "0", ()):
                self.refuses("many", block_of, kind, knobs, start, ((),) * width, wrong)
            given = ((1, 2, 3),) * width
            self.same(len(block_of(kind, knobs, start, given, 3)[1]), 3)
            for wrong in (0, 2, 4, -3, True, None, (3,)):
                self.refuses("many", block_of, kind, knobs, start, given, wrong)

    def test_two_thousand_and_one(self):
        sound = (1,) * 2000
        self.same(block_of("feed", (0,), 0, (sound,), 2000), (0, sound))
        self.refuses("many", block_of, "feed", (0,), 0, (sound + (1,),), 2001)

    def test_wrong_columns(self):
        for kind, knobs in all_settled():
            width, start = columns(kind, knobs), start_of(kind, knobs)
            given = ((1, 2),) * width
            wrongs = [given + ((1, 2),), list(given), None, 0, "a", ((1, 2),) * 9]
            if width > 0:
                wrongs += [given[:-1], given[:-1] + ([1, 2],), given[:-1] + ((1, None),), given[:-1] + ((True, 2),),
                           given[:-1] + ((1, TOP + 1),), given[:-1] + (1,)]
            if width > 1:
                wrongs += [given[:-1] + ((1,),), ((),) + given[1:], given[:-1] + ((1, 2, 3),)]
            for wrong in wrongs:
                for many in (2, -1):
                    self.refuses("columns", block_of, kind, knobs, start, wrong, many)

    def test_a_mix_without_weights(self):
        self.same(one_step("mix", ((), -4), 0, ()), (0, -4))
        self.same(block_of("mix", ((), -4), 0, (), 3), (0, (-4, -4, -4)))
        self.refuses("columns", block_of, "mix", ((), -4), 0, ((),), 0)
        self.refuses("worths", one_step, "mix", ((), -4), 0, (0,))

    def test_which_comes_first(self):
        for args, word in (
            (((5, 6), None, None, None), "knobs"), (((5,), None, None, None), "state"), (((5,), 0, None, None), "columns"),
            (((5,), 0, (), None), "many"), (((5,), 0, (), 2001), "many"), (((5,), False, (), 1), "state"), (((True,), 0, (), 1), "knobs"),
        ):
            self.refuses(word, block_of, "level", *args)
        self.same(block_of(kind="level", knobs=(5,), state=0, columns=(), many=2), (0, (5, 5)))
