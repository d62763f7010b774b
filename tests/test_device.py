"""Devices [97], what follows [98], and (G10) of [11]."""

from samesamples.device import Device
from samesamples.errors import TooFar
from samesamples.evers import names_ever, wires_ever
from samesamples.lags import are_lags, least_lags
from samesamples.lines import line_lengths, total_held
from samesamples.pulls import pull
from samesamples.engine import Engine
from samesamples.runs import run_of
from samesamples.scorenotes import has_notes
from engines import LAST
from helpers import ANYTHING, Case, drawing
from histories import drawn_entries
from projects import DUO, ECHO, FED, KINDS, let_project, mix, project, voices
from scores import NOTE, song

ZERO = (0, 0, 0, 0)
FEW = ("mix", "mix", "clock", "feed", "gain", "latch", "peak")


def columns(ticks):
    """What the ticks gave, as four sounds."""
    return tuple(tuple(tick[channel] for tick in ticks) for channel in range(4)) if ticks else ((), (), (), ())


class Devices(Case):
    def alike(self, one, entries, late, ears, lags, ticks):
        """The device tells at each tick the run's worths, each name so much later as its lag is."""
        device = Device(one, entries, late, ears, lags)
        told = tuple(device.tick(given) for given in ticks)
        names, worths, _ = run_of(one, entries, columns(ticks), len(ticks))
        table, by_name = dict(zip(names, worths)), dict(zip(names_ever(one, entries), lags))
        for at, row in enumerate(told):
            for ear, worth in zip(ears, row):
                sample = at - by_name.get(ear, 0)
                self.same(worth, table[ear][sample] if ear in table and sample >= 0 else 0)
        self.same(device.ticks(), len(ticks))
        return told

    def test_example(self):
        device = Device(DUO, ECHO, (("b", 1),), ("b",), (0, 1))
        self.same((device.tick(ZERO), device.tick(given=ZERO), device.tick(ZERO)), ((0,), (0,), (1,)))
        self.same((device.ticks(), device.lengths(), device.held()), (3, ((("a", 1), ("b", 0)), ()), 1))

    def test_ears_that_are_not_among_the_names(self):
        self.same(self.alike(DUO, (), (), ("z", "b"), (2, 2), [ZERO] * 5), ((0, 0), (0, 0), (0, 0), (0, 1), (0, 3)))

    def test_without_lags(self):
        ticks = [(k, -k, 5, 1000 * k) for k in range(9)]
        self.alike(FED, ((3, 5, ("knobs", "f", (3,))),), (), ("g", "f"), (0, 0), ticks)

    def test_late_boxes(self):
        one = project(a=mix(("f", 0)), b=mix(("a", 2), ("b", 4)), c=mix(("b", 0), ("a", 0)), f=("feed", 0, (2,), ()))
        late = (("a", 1), ("b", 3), ("c", 2), ("f", 5))
        names = ("a", "b", "c", "f")
        word, lags = least_lags(names, wires_ever(one, ()), late)
        self.same((word, lags), ("lags", (6, 7, 9, 5)))
        ticks = [(0, 0, 7 * k * k, 0) for k in range(40)]
        self.alike(one, (), late, ("c", "a", "f", "b"), lags, ticks)
        self.alike(one, (), late, ("c",), tuple(lag + 11 for lag in lags), ticks)
        device = Device(one, (), late, ("c",), lags)
        self.same(device.lengths(), line_lengths(names, wires_ever(one, ()), (("f", 2),), late, lags))
        self.same(device.held(), total_held(names, wires_ever(one, ()), (("f", 2),), late, lags))
        self.refuses("lags", Device, one, (), late, ("c",), (6, 7, 8, 5))

    def test_changes_at_and_ahead_of_lags(self):
        one = project(a=("clock", 0, (0, 0, 99), ()), b=mix(("a", 1)), c=mix(("b", 0)))
        entries = ((2, 4, ("anew", "a")), (3, 7, ("all", (("loose", "c", 0), ("off", "b")))), (5, None, ("wire", "c", 0, "a", 3)))
        for lags in ((0, 0, 0), (2, 2, 2), (3, 3, 4), (5, 6, 6), (0, 1, 3)):
            late = (("c", 1),) if lags[2] > lags[1] else ()
            if are_lags(("a", "b", "c"), wires_ever(one, entries), late, lags):
                self.alike(one, entries, late, ("a", "b", "c"), lags, [ZERO] * 15)
        # Two wires of delay 0 that lead round, but never at once.
        turned = ((4, None, ("all", (("loose", "c", 0), ("wire", "b", 0, "c", 0)))),)
        self.alike(one, turned, (), ("b", "c"), (0, 3, 3), [ZERO] * 12)

    def test_delays_that_reach_ahead(self):
        one = project(a=("clock", 0, (1, 0, 5000), ()), b=mix(("a", 2047)))
        told = self.alike(one, (), (), ("b", "a"), (0, 2), [ZERO] * 2060)
        self.same(told[2046:2050], ((0, 2047), (0, 2048), (0, 2049), (1, 2050)))

    def test_names_that_stand_behind_last_alone(self):
        entries = ((0, LAST, ("off", "b")),)
        self.same(names_ever(DUO, entries), ("a", "b"))
        self.alike(DUO, entries, (("b", 1),), ("b", "a"), (0, 1), [ZERO] * 12)

    def test_voices_with_scores_that_are_put_and_taken_out(self):
        slow = (((0, 1), (4, 1)),)
        one = project({"s": song((("times", 9, (NOTE,)),), tempo=slow)}, p=("clock", 0, (0, 0, 99), ()), v=("voices", 0, voices("s"), (("p", 0),)))
        entries = ((4, 9, ("score", "s", song((("by", (1, 2), (("times", 30, (NOTE,)),)),), tempo=slow))), (6, 8, ("all", (("off", "v"), ("noscore", "s")))))
        told = self.alike(one, entries, (("v", 2),), ("v",), (1, 3), [ZERO] * 20)
        self.assertTrue(len(set(told)) > 2, told)

    def test_each_kind(self):
        source = drawing(97)
        for _ in range(60):
            kinds = source.choice((FEW, tuple(kind for kind in KINDS if kind != "roll")))
            one = let_project(source, has_notes, least=2, most=5, kinds=kinds)
            names = tuple(name for name, _ in one[0])
            entries = drawn_entries(source, 4, 9, names=names, kinds=kinds)
            names = names_ever(one, entries)
            late = tuple((name, source.randint(1, 3)) for name in names if source.random() < 0.3)
            word, lags = least_lags(names, wires_ever(one, entries), late)
            ears = tuple(source.sample(names, min(2, len(names)))) or ("z",)
            ticks = [tuple(source.randint(-999, 999) for _ in range(4)) for _ in range(18)]
            if word == "ring":
                self.refuses("lags", Device, one, entries, late, ears, (9,) * len(names))
                continue
            lags = tuple(lag + source.choice((0, 0, 1, 2)) for lag in lags)
            if are_lags(names, wires_ever(one, entries), late, lags):
                told = self.alike(one, entries, late, ears, lags, ticks)
                # [98]: all lags raised by one number: the same pads, and the same told so much later.
                raised = tuple(lag + 3 for lag in lags)
                later = self.alike(one, entries, late, ears, raised, ticks + [ZERO] * 3)
                self.same(later[3:], tuple(tuple(row) for row in told))
                pads = [line_lengths(names, wires_ever(one, entries), (), late, some)[0] for some in (lags, raised)]
                self.same(pads[0], pads[1])

    def test_beside_an_engine(self):
        one = project(a=("noise", 0, (1, 999), ()), b=mix(("a", 3), ("b", 2)), c=mix(("b", 1)))
        entries = ((9, 15, ("wire", "b", 0, "c", 2)),)
        engine = Engine(one, ("b", "c"), entries)
        heard = pull(engine, 30)
        device = Device(one, entries, (("b", 1), ("c", 1)), ("b", "c"), (0, 1, 1))
        told = [device.tick(ZERO) for _ in range(31)]
        self.same(tuple(told[1:]), heard)

    def test_behind_last_ticks(self):
        device = Device(project(a=("clock", 0, (0, 0, 30000), ()), f=("feed", 0, (0,), ())), (), (), ("a", "f"), (3, 7))
        for tick in range(LAST):
            told = device.tick((tick % 100, 0, 0, 0))
        self.same((told, device.ticks()), ((LAST - 4, (LAST - 8) % 100), LAST))
        self.raises(TooFar, (LAST,), device.tick, ZERO)
        self.refuses("given", device.tick, (0, 0, 0))
        self.same((device.ticks(), device.held()), (LAST, 7))

    def test_wrong_inputs(self):
        for thing in ANYTHING:
            if thing != ((), ()):
                self.refuses("project", Device, thing, None, None, None, None)
            if thing != ():
                self.refuses("entries", Device, DUO, thing, None, None, None)
                self.refuses("late", Device, DUO, (), thing, None, None)
            self.refuses("ears", Device, DUO, (), (), thing, None)
            if thing not in ((0, 1), (1, 2), (2, 4)):
                self.refuses("lags", Device, DUO, (), (), ("b",), thing)
        marked = ((("a", ("level", 1, (5,), ())),), ())
        self.refuses("project", Device, marked, (), (), ("a",), (0,))
        self.refuses("project", Device, project(a=mix(("x", 0))), (), (), ("a",), (0,))
        # Names are those that ever stand.
        entries = ((4, 5, ("put", "c", "level", (5,), ())),)
        self.refuses("late", Device, DUO, (), (("c", 1),), ("b",), (0, 0, 1))
        self.same(Device(project=DUO, entries=entries, late=(("c", 1),), ears=("b",), lags=(0, 0, 1)).ticks(), 0)
        self.refuses("lags", Device, DUO, entries, (("c", 1),), ("b",), (0, 0))
        for lags in ((1, 0), (0, True), [0, 0], (0, None)):
            self.refuses("lags", Device, DUO, (), (), ("b",), lags)
        device = Device(DUO, (), (), ("b",), (0, 0))
        for given in (None, (0, 0, 0), (0,) * 5, [0] * 4, (0, 0, 0, True), (0, 0, 0, 1048576), (0, 0, 0, "0"), ((),) * 4):
            self.refuses("given", device.tick, given)
        self.same(device.ticks(), 0)
