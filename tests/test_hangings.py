"""What hangs on what, and which places are sure [9], [68], [69], and what follows [72]."""

from samesamples.hangings import hangs_on, touched_by
from samesamples.runs import run_of
from samesamples.scorenotes import has_notes
from samesamples.sures import sure_until
from helpers import ANYTHING, Case, drawing
from histories import LAST, Plain, drawn_entries
from projects import DUO, ECHO, FED, LEVEL, MUTE, NAMES, let_project, mix, project

ALL_SHUT = (None, None, None, None)


class Hangings(Case):
    def test_duo(self):
        self.same(hangs_on(DUO, (), "b", 1), (("a", 0), ("a", 1), ("b", 0), ("b", 1)))
        self.same(hangs_on(project=DUO, entries=ECHO, name="a", sample=2), (("a", 0), ("a", 1), ("a", 2)))
        self.same(touched_by(DUO, ECHO, "b", 1, 4), (("b", 1), ("b", 2), ("b", 3)))
        self.same(touched_by(project=DUO, entries=ECHO, name="a", sample=2, goal=4), (("a", 2), ("a", 3), ("b", 3)))

    def test_places_that_do_not_stand(self):
        self.same(hangs_on(DUO, (), "z", 7), (("z", 7),))
        self.same(touched_by(DUO, (), "z", 7, 9), (("z", 7),))
        entries = ((2, 4, ("off", "b")),)
        self.same(hangs_on(DUO, entries, "b", 3), (("b", 3),))
        self.same(touched_by(DUO, entries, "b", 3, 9), (("b", 3),))
        self.same(hangs_on(DUO, entries, "b", 4), tuple(("a", at) for at in range(5)) + (("b", 4),))
        self.same(touched_by(DUO, entries, "b", 1, 9), (("b", 1),))
        # Nobody reads a source where it does not stand.
        one = project(a=LEVEL, c=mix(("a", 2)))
        away = ((1, 3, ("all", (("off", "a"), ("loose", "c", 0)))),)
        self.same(touched_by(one, away, "a", 1, 6), (("a", 1),))
        self.same(touched_by(one, away, "a", 0, 6), (("a", 0),))
        self.same(touched_by(one, away, "a", 3, 6), (("a", 3), ("a", 4), ("a", 5), ("c", 5)))

    def test_carried_and_not(self):
        one = project(a=LEVEL)
        entries = ((3, None, ("anew", "a")),)
        self.same(hangs_on(one, entries, "a", 4), (("a", 3), ("a", 4)))
        self.same(touched_by(one, entries, "a", 1, 9), (("a", 1), ("a", 2)))

    def test_delays(self):
        one = project(a=LEVEL, b=mix(("a", 2), ("b", 2047)), c=mix(("b", 0), ("b", 0)))
        self.same(hangs_on(one, (), "c", 1), (("b", 0), ("b", 1), ("c", 0), ("c", 1)))
        self.same(hangs_on(one, (), "c", 2), (("a", 0), ("b", 0), ("b", 1), ("b", 2), ("c", 0), ("c", 1), ("c", 2)))
        self.same(touched_by(one, (), "a", 1, 4), (("a", 1), ("a", 2), ("a", 3), ("b", 3), ("c", 3)))
        self.same(len(hangs_on(one, (), "c", 2000)), 1999 + 2001 + 2001)

    def test_drawn_histories(self):
        source = drawing(68)
        for _ in range(60):
            one, entries = let_project(source, has_notes, least=2, most=5), drawn_entries(source, 4, 7)
            goal = source.randint(2, 9)
            plain = Plain(one, entries, goal)
            places = [(name, sample) for name in NAMES for sample in range(goal)]
            behind = {place: plain.hangs_on(place) for place in places}
            for name, sample in source.sample(places, 12):
                self.same(hangs_on(one, entries, name, sample), tuple(sorted(behind[name, sample])))
                touched = sorted(place for place in places if (name, sample) in behind[place])
                self.same(touched_by(one, entries, name, sample, goal), tuple(touched))

    def test_wrong_inputs(self):
        for thing in ANYTHING:
            if thing != ():
                self.refuses("entries", hangs_on, DUO, thing, None, None)
                self.refuses("entries", touched_by, DUO, thing, None, None, None)
            if thing not in ("a", "down"):
                self.refuses("name", hangs_on, DUO, (), thing, None)
                self.refuses("name", touched_by, DUO, (), thing, None, None)
            if isinstance(thing, bool) or not isinstance(thing, int) or not 0 <= thing < LAST:
                self.refuses("sample", hangs_on, DUO, (), "a", thing)
                self.refuses("sample", touched_by, DUO, (), "a", thing, None)
            if isinstance(thing, bool) or not isinstance(thing, int) or not 0 < thing <= LAST:
                self.refuses("goal", touched_by, DUO, (), "a", 0, thing)
        for goal in (0, 4, 5, LAST + 1):
            self.refuses("goal", touched_by, DUO, (), "a", 5, goal)
        self.same(touched_by(DUO, (), "a", 5, 6), (("a", 5), ("b", 5)))
        self.refuses("sample", hangs_on, DUO, (), "a", LAST)


class Sures(Case):
    def test_fed(self):
        self.same(sure_until(FED, (), (0, 3, 0, 0), 9), (("f", 3), ("g", 5)))
        self.same(sure_until(FED, (), (9, 0, 9, 9), 9), (("f", 0), ("g", 2)))
        self.same(sure_until(FED, (), (0, None, 0, 0), 9), (("f", 9), ("g", 9)))
        self.same(sure_until(FED, (), ALL_SHUT, 9), (("f", 9), ("g", 9)))
        self.same(sure_until(FED, (), (0, 9, 0, 0), 9), (("f", 9), ("g", 9)))
        self.same(sure_until(FED, (), (0, 8, 0, 0), 9), (("f", 8), ("g", 9)))
        self.same(sure_until(project=FED, entries=(), amounts=(0, 0, 0, 0), goal=0), ())
        self.same(sure_until(DUO, ECHO, (0, 0, 0, 0), 5), (("a", 5), ("b", 5)))
        self.same(sure_until(FED, (), (10 ** 30,) * 4, 2), (("f", 2), ("g", 2)))

    def test_names_that_stand_for_some_samples(self):
        entries = ((1, 4, ("put", "h", "feed", (0,), ())), (3, 6, ("wire", "g", 0, "f", 0)))
        # h lacks all it asks for while it stands, and asks for nothing elsewhere.
        self.same(sure_until(FED, entries, (0, None, 0, 0), 9), (("f", 9), ("g", 9), ("h", 1)))
        self.same(sure_until(FED, entries, (2, 4, 0, 0), 9), (("f", 4), ("g", 4), ("h", 2)))
        self.same(sure_until(FED, entries, (4, 9, 0, 0), 9), (("f", 9), ("g", 9), ("h", 9)))
        self.same(sure_until(FED, entries, (4, 9, 0, 0), 1), (("f", 1), ("g", 1)))

    def test_drawn_histories(self):
        source = drawing(69)
        unsure = 0
        for _ in range(120):
            one = let_project(source, has_notes, least=1, most=5, kinds=("feed", "feed", "mix", "peak", "gain"))
            entries = drawn_entries(source, 4, 7, kinds=("feed", "mix", "peak"))
            amounts = tuple(source.choice((None, source.randint(0, 9))) for _ in range(4))
            goal = source.randint(0, 10)
            plain = Plain(one, entries, goal)

            def lacks(place):
                box = plain.box(*place)
                return box is not None and box[0] == "feed" and amounts[box[2][0]] is not None and place[1] >= amounts[box[2][0]]

            told = []
            for name in plain.names:
                firsts = [sample for sample in range(goal) if any(lacks(place) for place in plain.hangs_on((name, sample)))]
                told.append((name, min(firsts, default=goal)))
                unsure += bool(firsts)
            self.same(sure_until(one, entries, amounts, goal), tuple(told))
            self.same([name for name, _ in told], list(run_of(one, entries, MUTE, goal)[0]))
        self.assertTrue(unsure > 60, unsure)

    def test_wrong_inputs(self):
        for thing in ANYTHING:
            if thing != ():
                self.refuses("entries", sure_until, FED, thing, None, None)
            self.refuses("amounts", sure_until, FED, (), thing, None)
            if isinstance(thing, bool) or not isinstance(thing, int) or not 0 <= thing <= LAST:
                self.refuses("goal", sure_until, FED, (), ALL_SHUT, thing)
        for amounts in ((0, 0, 0), (0,) * 5, [0] * 4, (0, 0, 0, True), (0, 0, 0, -1), (False, 0, 0, 0), (0, "0", 0, 0), (0, (), 0, 0)):
            self.refuses("amounts", sure_until, FED, (), amounts, 0)
        self.refuses("goal", sure_until, FED, (), ALL_SHUT, LAST + 1)

    def test_asked_twice(self):
        for _ in range(2):
            self.same(sure_until(FED, (), (0, 3, 0, 0), 9), (("f", 3), ("g", 5)))
            self.same(sure_until(FED, (), ALL_SHUT, 3), (("f", 3), ("g", 3)))
