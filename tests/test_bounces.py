"""An engine's sounds [89], [90], its reach [91], what stands in a history at all [93], and what follows [92]."""

from samesamples.bounces import bounce, frozen_deed
from samesamples.engine import Engine
from samesamples.errors import Gone, NotYet
from samesamples.evers import feeds_ever, names_ever, wires_ever
from samesamples.reachnow import reach_now
from samesamples.scorenotes import has_notes
from engines import LAST, not_numbers, work
from helpers import ANYTHING, Case, drawing
from histories import Plain, drawn_entries
from projects import DUO, ECHO, FED, LEVEL, NAMES, let_project, mix, project
from samesamples.pulls import pull

CLOCK = ("clock", 0, (0, 0, 30000), ())


def worked_duo(front=6):
    engine = Engine(DUO, ("b",))
    pull(engine, front)
    return engine


class Bouncing(Case):
    def test_bounce(self):
        engine = worked_duo()
        self.same(bounce(engine=engine, name="b", low=1, high=4), (1, 3, 3))
        self.same((bounce(engine, "b", 6, 6), bounce(engine, "b", 0, 0), bounce(engine, "zz", 0, 0)), ((), (), ()))
        self.raises(NotYet, ("b",), bounce, engine, "b", 7, 7)
        self.raises(NotYet, ("b",), bounce, engine, "b", 0, 7)
        self.raises(NotYet, ("zz",), bounce, engine, "zz", 0, 1)
        engine.seal()
        self.same(engine.wanted("b"), 5)
        self.same((bounce(engine, "b", 5, 6), bounce(engine, "b", 6, 6)), ((6,), ()))
        self.raises(Gone, ("b",), bounce, engine, "b", 4, 6)
        self.raises(Gone, ("b",), bounce, engine, "b", 4, 4)
        self.raises(NotYet, ("b",), bounce, engine, "b", 4, 7)

    def test_frozen_deed(self):
        engine = worked_duo()
        self.same(frozen_deed(engine=engine, name="b", low=1, high=3), ("all", (("put", "b", "roll", ((1, 3),), ()), ("anew", "b"))))
        self.same(frozen_deed(engine, "a", 2, 2)[1][0], ("put", "a", "roll", ((),), ()))
        self.raises(NotYet, ("b",), frozen_deed, engine, "b", 1, 7)
        engine.seal()
        self.raises(Gone, ("b",), frozen_deed, engine, "b", 1, 3)
        self.raises(NotYet, ("b",), frozen_deed, engine, "b", 1, 7)

    def test_six_hundred_samples(self):
        engine = Engine(project(a=CLOCK), ("a",))
        work(engine, "a", 1500)
        self.same(frozen_deed(engine, "a", 700, 1300)[1][0][3], (tuple(range(700, 1300)),))
        self.refuses("high", frozen_deed, engine, "a", 700, 1301)
        self.same(engine.change(700, frozen_deed(engine, "a", 700, 1300)), (("a", 700),))

    def test_a_name_that_does_not_stand_at_low(self):
        engine = Engine(DUO, ("b", "z"), ((3, 5, ("put", "c", "level", (7,), ())),))
        for _ in range(4):
            work(engine, "c", 1)
        self.refuses("name", frozen_deed, engine, "z", 0, 9)
        self.refuses("name", frozen_deed, engine, "c", 2, 9)
        self.refuses("name", frozen_deed, engine, "c", 5, 9)
        self.same(frozen_deed(engine, "c", 3, 4)[1][0][3], ((7,),))
        self.raises(NotYet, ("c",), frozen_deed, engine, "c", 4, 5)
        # The other parameters are looked at ahead of where the name stands.
        self.refuses("low", frozen_deed, engine, "z", LAST, 9)
        self.refuses("high", frozen_deed, engine, "z", 3, 2)
        self.refuses("name", frozen_deed, engine, "Z", LAST, 9)

    def test_put_and_worked_anew(self):
        """[11] (G13), [92]: all worths below high are as before, and name tells 0 from high on."""
        source = drawing(90)
        tried = 0
        while tried < 40:
            one = let_project(source, has_notes, least=2, most=4)
            names = tuple(name for name, _ in one[0])
            low = source.randint(0, 6)
            entries = tuple(entry for entry in drawn_entries(source, 3, 9, names=names) if entry[0] <= low and (entry[1] is None or entry[1] <= low))
            engine = Engine(one, names, entries)
            for channel in range(4):
                engine.shut(channel)
            pull(engine, 12)
            other = Engine(one, names, entries)
            for channel in range(4):
                other.shut(channel)
            high, name = source.randint(low, 12), source.choice(names)
            if name not in dict(Plain(one, entries, low + 1).standings[low][0]):
                continue
            deed = frozen_deed(engine, name, low, high)
            try:
                other.change(low, deed)
            except ValueError:
                continue
            pull(other, 15)
            for one_name in names:
                self.same(other.worths(one_name, 0, high), engine.worths(one_name, 0, high))
            self.same(other.worths(name, high, 15), (0,) * (15 - high))
            tried += 1

    def test_wrong_inputs(self):
        engine = worked_duo()
        for thing in ANYTHING:
            if thing not in ("a", "down"):
                self.refuses("name", bounce, engine, thing, None, None)
                self.refuses("name", frozen_deed, engine, thing, None, None)
        for thing in not_numbers(0, 1, 7, 10 ** 60 - 1):
            self.refuses("low", bounce, engine, "a", thing, None)
            self.refuses("low", frozen_deed, engine, "a", thing, None)
            self.refuses("high", bounce, engine, "a", 0, thing)
            self.refuses("high", frozen_deed, engine, "a", 0, thing)
        self.refuses("high", bounce, engine, "a", 4, 3)
        self.refuses("high", frozen_deed, engine, "a", 4, 3)


class Reaching(Case):
    def test_slips_count_as_worked(self):
        engine = Engine(DUO, ("b",))
        work(engine, "a", 4)
        self.same(reach_now(engine, ("a",), 9), (("a", 4), ("b", 4)))
        engine.begin(0, "a", 3)
        self.same(reach_now(engine=engine, still=("a",), goal=9), (("a", 7), ("b", 7)))
        self.same(reach_now(engine, ("a",), 5), (("a", 7), ("b", 5)))
        engine.change(6, ("anew", "a"))
        # Struck slips do not count.
        self.same(reach_now(engine, ("a",), 9), (("a", 4), ("b", 4)))
        self.same(reach_now(engine, (), 0), (("a", 4), ("b", 0)))

    def test_names_of_the_engine(self):
        engine = Engine(FED, ("z", "g"), ((9, 12, ("put", "c", "level", (5,), ())),))
        engine.give(1, (1, 2))
        work(engine, "z", 3)
        # Names that never stand, or only behind the goal, are told, others are not.
        self.same(reach_now(engine, (), 5), (("c", 5), ("f", 2), ("g", 4), ("z", 5)))
        self.same(reach_now(engine, ("z", "c", "y"), 5), (("c", 0), ("f", 2), ("g", 4), ("z", 3)))
        self.same(reach_now(engine, ("f",), 1), (("c", 1), ("f", 0), ("g", 1), ("z", 3)))
        engine.shut(1)
        self.same(reach_now(engine, (), LAST), tuple((name, LAST) for name in ("c", "f", "g", "z")))

    def test_wrong_inputs(self):
        engine = Engine(DUO, ("b",))
        for thing in ANYTHING:
            if thing != ():
                self.refuses("still", reach_now, engine, thing, None)
        for thing in not_numbers(0, 1, 7) + [LAST + 1]:
            self.refuses("goal", reach_now, engine, (), thing)


class Evers(Case):
    def test_duo(self):
        self.same(names_ever(DUO, ECHO), ("a", "b"))
        self.same(wires_ever(DUO, ECHO), (("a", "b", 0), ("a", "b", 1), ("b", "b", 1)))
        self.same((feeds_ever(DUO, ECHO), feeds_ever(FED, ())), ((), (("f", 1),)))
        self.same((names_ever(((), ()), ()), wires_ever(((), ()), ()), feeds_ever(((), ()), ())), ((), (), ()))

    def test_segments_that_begin_at_last(self):
        entries = ((0, LAST, ("all", (("loose", "g", 0), ("off", "f")))),)
        self.same((names_ever(FED, entries), wires_ever(FED, entries), feeds_ever(FED, entries)), (("f", "g"), (("f", "g", 2),), (("f", 1),)))
        entries = ((0, None, ("all", (("loose", "g", 0), ("off", "f")))),)
        self.same((names_ever(FED, entries), wires_ever(FED, entries), feeds_ever(FED, entries)), (("g",), (), ()))

    def test_deeds_that_stand_nowhere(self):
        entries = ((4, 4, ("put", "c", "level", (5,), ())), (5, 9, ("wire", "g", 0, "c", 3)), (0, None, ("knobs", "f", (2,))), (7, 8, ("knobs", "f", (0,))))
        self.same((names_ever(FED, entries), wires_ever(FED, entries), feeds_ever(FED, entries)), (("f", "g"), (("f", "g", 2),), (("f", 0), ("f", 2))))

    def test_equal_ones_once(self):
        one = project(a=LEVEL, b=mix(("a", 1), ("a", 1), ("b", 2)))
        self.same(wires_ever(one, ((3, 5, ("wire", "b", 0, "a", 0)),)), (("a", "b", 0), ("a", "b", 1), ("b", "b", 2)))

    def test_drawn(self):
        source = drawing(93)
        for _ in range(60):
            one, entries = let_project(source, has_notes, least=1), drawn_entries(source, 5, 9, names=NAMES)
            entries = tuple(entry for entry in entries if entry[1] is None or entry[1] < LAST)
            boxes = [pair for boxes, _ in Plain(one, entries, 14).standings for pair in boxes.items()]
            self.same(names_ever(one, entries), tuple(sorted({name for name, _ in boxes})))
            wires = {(wire[0], name, wire[1]) for name, box in boxes for wire in box[3] if wire is not None}
            self.same(wires_ever(project=one, entries=entries), tuple(sorted(wires)))
            self.same(feeds_ever(one, entries), tuple(sorted({(name, box[2][0]) for name, box in boxes if box[0] == "feed"})))

    def test_wrong_inputs(self):
        for function in (names_ever, wires_ever, feeds_ever):
            for thing in ANYTHING:
                if thing != ():
                    self.refuses("entries", function, DUO, thing)
