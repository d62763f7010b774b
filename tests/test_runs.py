"""Runs, and whether tables are runs [8], [63], [64], and what follows [11], [72]."""

from samesamples.fitting import is_run
from samesamples.runs import run_of
from samesamples.scorenotes import has_notes, notes_of
from samesamples.projects import beside
from samesamples.states import is_state
from boxes import KNOBS, drawn_knobs, inlets
from helpers import ANYTHING, Case, drawing, same
from histories import LAST, Plain, drawn_entries, drawn_given
from projects import DUO, ECHO, FED, LEVEL, MUTE, NAMES, let_project, mix, project, voices
from scores import NOTE, SONG, song

NOTHING = ((), (), ())


def clock(first=0, low=0, high=100):
    return "clock", 0, (first, low, high), ()


class Runs(Case):
    def worths(self, one, entries, goal, given=MUTE):
        """By name the worths of the run, looked at beside the plain one."""
        told = run_of(one, entries, given, goal)
        self.same(told, Plain(one, entries, goal).table(given))
        self.assertIs(is_run(one, entries, given, told), True)
        return dict(zip(told[0], told[1]))

    def test_duo(self):
        self.same(self.worths(DUO, (), 5), {"a": (0, 1, 2, 0, 1), "b": (0, 1, 3, 3, 4)})
        self.same(self.worths(DUO, ECHO, 5), {"a": (0, 1, 2, 0, 1), "b": (0, 1, 2, 4, 4)})
        self.same(run_of(project=DUO, entries=(), given=MUTE, goal=2), (("a", "b"), ((0, 1), (0, 1)), ((1, 2), (0, 0))))

    def test_nothing_stands(self):
        for one, entries, goal in ((DUO, (), 0), (((), ()), (), 9), (DUO, ((0, 9, ("all", (("off", "b"), ("off", "a")))),), 9),
                                   (((), ()), ((9, None, ("put", "c") + LEVEL[:1] + LEVEL[2:]),), 9)):
            self.same(run_of(one, entries, MUTE, goal), NOTHING)
        self.same(self.worths(((), ()), ((8, None, ("put", "c", "level", (5,), ())),), 9), {"c": (0,) * 8 + (5,)})

    def test_names_that_stand_for_some_samples(self):
        entries = ((2, 4, ("put", "c", "clock", (7, 0, 100), ())), (6, None, ("off", "b")), (1, 3, ("put", "d", "mix", ((4096,), 0), (("a", 1),))))
        told = run_of(DUO, entries, MUTE, 8)
        self.same(told[0], ("a", "b", "c", "d"))
        self.same(told[1][1][6:] + told[1][2] + told[1][3], (0, 0) + (0, 0, 7, 8, 0, 0, 0, 0) + (0, 0, 1, 0, 0, 0, 0, 0))
        self.same(told[2][1][5:] + told[2][2] + told[2][3], (0, None, None) + (None, None, 8, 9) + (None,) * 4 + (None, 0, 0) + (None,) * 5)
        self.worths(DUO, entries, 8)
        # A name is told only if it stands below the goal.
        self.same(run_of(DUO, entries, MUTE, 2)[0], ("a", "b", "d"))
        self.same(run_of(DUO, entries, MUTE, 1)[0], ("a", "b"))

    def test_who_is_carried(self):
        def told(*deeds, kind="clock", knobs=(0, 0, 100)):
            return self.worths(project(a=(kind, 0, knobs, (None,) * inlets(kind, knobs))), tuple((3, None, deed) for deed in deeds), 6)["a"]

        self.same(told(), (0, 1, 2, 3, 4, 5))
        self.same(told(("anew", "a")), (0, 1, 2, 0, 1, 2))
        # Other knobs of the same shape leave the state as it is; so does a box that is taken out and put at one sample.
        self.same(told(("knobs", "a", (50, 7, 5))), (0, 1, 2, 3, 4, 7))
        self.same(told(("all", (("off", "a"), ("put", "a", "clock", (9, 0, 100), ())))), (0, 1, 2, 3, 4, 5))
        self.same(told(("put", "a", "noise", (0, 0), ()), ("put", "a", "clock", (9, 0, 100), ())), (0, 1, 2, 3, 4, 5))
        # Another kind or shape starts anew.
        self.same(told(("put", "a", "roll", ((7, 8, 9),), ())), (0, 1, 2, 7, 8, 9))
        wave = ((0, 10, 20, 30), 1, 1)
        self.same(told(kind="wave", knobs=wave), (0, 10, 20, 30, 0, 10))
        self.same(told(("knobs", "a", ((1, 11, 21, 31), 1, 1)), kind="wave", knobs=wave), (0, 10, 20, 31, 1, 11))
        self.same(told(("knobs", "a", ((1, 11, 21, 31, 41), 1, 1)), kind="wave", knobs=wave), (0, 10, 20, 1, 11, 21))

    def test_carried_only_from_the_very_sample_ahead(self):
        one = project(a=clock())
        self.same(self.worths(one, ((3, 4, ("off", "a")),), 6)["a"], (0, 1, 2, 0, 0, 1))
        # A mark that comes and goes: where the entry ends, the box that stood ahead of it starts anew, too.
        self.same(self.worths(one, ((2, 4, ("anew", "a")),), 6)["a"], (0, 1, 0, 1, 0, 1))
        self.same(self.worths(one, ((2, 4, ("anew", "a")), (4, None, ("anew", "a"))), 6)["a"], (0, 1, 0, 1, 0, 1))
        self.same(self.worths(one, ((0, None, ("anew", "a")),), 4)["a"], (0, 1, 2, 3))

    def test_delays(self):
        one = project(a=clock(first=1), b=mix(("a", 0)), c=mix(("a", 3)), d=mix(("a", 2047)), e=mix(None, ("a", 1)))
        told = self.worths(one, (), 6)
        self.same([told[name] for name in "abcde"],
                  [(1, 2, 3, 4, 5, 6), (1, 2, 3, 4, 5, 6), (0, 0, 0, 1, 2, 3), (0,) * 6, (0, 1, 2, 3, 4, 5)])
        # A delay that reaches to where the source did not stand tells 0, to where it stood tells it.
        one = project(b=LEVEL)
        entries = ((2, None, ("put", "a", "clock", (7, 0, 100), ())), (3, None, ("put", "c", "mix", ((4096,), 0), (("a", 2),))))
        self.same(self.worths(one, entries, 7)["c"], (0, 0, 0, 0, 7, 8, 9))
        entries = ((0, 2, ("put", "a", "clock", (7, 0, 100), ())), (3, None, ("all", (
            ("put", "a", "level", (1,), ()), ("put", "c", "mix", ((4096,), 0), (("a", 2),))))))
        self.same(self.worths(one, entries, 7)["c"], (0, 0, 0, 8, 0, 1, 1))

    def test_rings_with_delays(self):
        one = project(a=mix(("b", 1), bias=1), b=mix(("a", 0), ("c", 2)), c=mix(("b", 0), ("c", 1)))
        self.same(self.worths(one, (), 6)["a"], (1, 2, 3, 5, 9, 17))
        self.worths(project(a=mix(("a", 1), ("a", 2), bias=3)), ((4, None, ("loose", "a", 0)),), 9)

    def test_feeds(self):
        one = project(f=("feed", 0, (1,), ()), g=("feed", 0, (1,), ()), h=("feed", 0, (3,), ()))
        given = ((9, 9), (5, -6, 7), (), (1048575,))
        self.same(self.worths(one, (), 5, given), {"f": (5, -6, 7, 0, 0), "g": (5, -6, 7, 0, 0), "h": (1048575, 0, 0, 0, 0)})
        self.same(self.worths(one, ((1, 3, ("knobs", "f", (0,))),), 4, given)["f"], (5, 9, 0, 0))
        self.same(self.worths(one, (), 2, given)["f"], (5, -6))
        self.same(self.worths(FED, (), 6, given)["g"], (0, 0, 5, -6, 7, 0))

    def test_each_kind(self):
        source = drawing(33)
        for kind in KNOBS:
            for _ in range(6):
                knobs = drawn_knobs(source, kind)
                if kind == "voices":
                    knobs = ("s",) + knobs[1:]
                wires = tuple(source.choice((None, ("c", 0), ("n", 1), ("x", 1), ("f", 0))) for _ in range(inlets(kind, knobs)))
                one = project({"s": SONG}, x=(kind, 0, knobs, wires), c=clock(), n=("noise", 0, (5, 1000), ()), f=("feed", 0, (0,), ()))
                entries = ((4, 9, ("knobs", "x", knobs)), (6, None, ("anew", "x")), (11, 13, ("off", "x")))
                self.worths(one, entries, 16, drawn_given(source))

    def test_voices(self):
        slow = (((0, 1), (4, 1)),)
        tune = song((("times", 3, (NOTE, ("note", 1, (2, 1)))),), tempo=slow)
        other = song((("by", (1, 4), (("note", 2, (5, 1)), ("note", 3, (5, 1)))),), tempo=slow)
        one = project({"s": tune}, c=clock(), v=("voices", 0, voices("s"), (("c", 0),)))
        self.assertEqual(len(notes_of(tune)), 6)
        told = self.worths(one, ((3, 6, ("score", "s", other)),), 12)
        self.assertNotEqual(told["v"], self.worths(one, (), 12)["v"])
        # The score may be taken out only with the box; put back at one sample the voices sound on.
        gone = ("all", (("off", "v"), ("noscore", "s")))
        back = ("all", (("off", "v"), ("put", "v", "voices", voices("s"), (("c", 0),))))
        self.same(self.worths(one, ((5, 7, gone),), 12)["v"][5:7], (0, 0))
        self.same(self.worths(one, ((4, None, ("noscore", "s")),), 12), self.worths(one, (), 12))
        self.same(self.worths(one, ((4, None, back),), 12), self.worths(one, (), 12))
        self.assertNotEqual(self.worths(one, ((6, None, ("anew", "v")),), 12)["v"], self.worths(one, (), 12)["v"])

    def test_drawn_histories(self):
        source = drawing(63)
        for _ in range(150):
            one, entries, given = let_project(source, has_notes, least=2, most=5), drawn_entries(source, 5), drawn_given(source)
            goal = source.randint(0, 14)
            told = run_of(one, entries, given, goal)
            self.same(told, Plain(one, entries, goal).table(given))
            self.assertIs(is_run(one, entries, given, told), True)
            # Tables of two goals agree where both tell.
            less = source.randint(0, goal)
            short = run_of(one, entries, given, less)
            by_name = dict(zip(told[0], zip(told[1], told[2])))
            for name, worths, states in zip(*short):
                self.same((worths, states), (by_name[name][0][:less], by_name[name][1][:less]))

    def test_projects_beside_one_another(self):
        # [11] (G13)
        source = drawing(13)
        for _ in range(30):
            one = let_project(source, has_notes, names=("a", "b"), most=2)
            other = project(x=mix(("y", 1), ("x", 1)), y=clock())
            given = drawn_given(source)
            alone, its = run_of(one, (), given, 9), run_of(other, (), given, 9)
            both = run_of(beside(one, other), (), given, 9)
            self.same(both, tuple(mine + others for mine, others in zip(alone, its)))

    def test_far_goals(self):
        one = project(a=clock(high=1000), b=mix(("a", 2047)), c=("noise", 0, (1, 50), ()))
        names, worths, states = run_of(one, ((1500, None, ("anew", "a")),), MUTE, 4000)
        self.same(names, ("a", "b", "c"))
        self.same((worths[0][1499], worths[0][1500], worths[0][2499], worths[0][2500]), (499, 0, 999, 0))
        self.same((worths[1][2046], worths[1][2048], worths[1][3999]), (0, 1, worths[0][3999 - 2047]))
        self.same(len(states[2]), 4000)

    def test_wrong_inputs(self):
        for thing in ANYTHING:
            if thing != ():
                self.refuses("entries", run_of, DUO, thing, None, None)
                self.refuses("entries", is_run, DUO, thing, None, None)
            self.refuses("given", run_of, DUO, (), thing, None)
            self.refuses("given", is_run, DUO, (), thing, None)
            if isinstance(thing, bool) or not isinstance(thing, int) or not 0 <= thing <= LAST:
                self.refuses("goal", run_of, DUO, (), MUTE, thing)
        for given in (MUTE[:3], MUTE + ((),), list(MUTE), ((), (), (), []), ((), (True,), (), ()), ((1048576,), (), (), ()), ((), (), (None,), ())):
            self.refuses("given", run_of, DUO, (), given, 0)
            self.refuses("given", is_run, DUO, (), given, NOTHING)
        self.refuses("goal", run_of, DUO, (), MUTE, LAST + 1)
        self.same(len(run_of(((("a", LEVEL),), ()), (), MUTE, LAST)[1][0]), LAST)


class Fitting(Case):
    def test_one_worth_or_state_changed(self):
        source = drawing(64)
        changed = 0
        for _ in range(60):
            one, entries, given = let_project(source, has_notes), drawn_entries(source), drawn_given(source)
            goal = source.randint(1, 9)
            names, worths, states = run_of(one, entries, given, goal)
            for _ in range(6 if names else 0):
                at, sample = source.randrange(len(names)), source.randrange(goal)
                worth, state = worths[at][sample], states[at][sample]
                for other in (worth + 1, -worth - 1, None, "0", (worth,), worth == 1, 10 ** 30):
                    self.assertIs(is_run(one, entries, given, (names, self.put(worths, at, sample, other), states)), False)
                for other in (None, 0, 1, True, (), (0,), (0, 0, 0, 0), "a", -1, 2 ** 40):
                    if not same(other, state):
                        changed += 1
                        self.assertIs(is_run(one, entries, given, (names, worths, self.put(states, at, sample, other))), False)
        self.assertTrue(changed > 500)

    def put(self, rows, at, sample, thing):
        row = rows[at][:sample] + (thing,) + rows[at][sample + 1:]
        return rows[:at] + (row,) + rows[at + 1:]

    def test_other_goals_names_and_forms(self):
        plain = names, worths, states = run_of(DUO, (), MUTE, 3)
        self.assertIs(is_run(project=DUO, entries=(), given=MUTE, thing=plain), True)
        for thing in (
            list(plain), plain[:2], plain + ((),), (list(names), worths, states), (names, list(worths), states), (names, worths, list(states)),
            (names[::-1], worths[::-1], states[::-1]), (names[:1], worths[:1], states[:1]), (names + ("c",), worths + ((0,) * 3,), states + ((None,) * 3,)),
            (names, worths[:1], states), (names, worths, states[:1]), (names, ((0, 1, 2), (0, 1)), states), (names, worths, ((1, 2, 0), (0, 0))),
            (names, ((0, 1), (0, 1, 3)), states), (("a", "c"), worths, states), (("a", 1), worths, states), ((), worths, states),
            (names, ((0, True, 2), (0, 1, 3)), states), (names, worths, ((1, 2, False), (0, 0, 0))), (names, worths, ((1, 2, 0), (0, 0, None))),
            (names, ([0, 1, 2], (0, 1, 3)), states), (names, worths, ([1, 2, 0], (0, 0, 0))), (names, (), ()), (names, ((), ()), ((), ())),
            ((), (), ((),)), ((), ((),), ()), (names, (3, 4), states), (names, None, None), (None, None, None), (names, 3, states), (names, worths, 3), None, "abc",
        ):
            self.assertIs(is_run(DUO, (), MUTE, thing), False, thing)
        for thing in ANYTHING:
            self.assertIs(is_run(DUO, (), MUTE, thing), False)
        for goal in range(6):
            self.assertIs(is_run(DUO, (), MUTE, run_of(DUO, (), MUTE, goal)), True)
            self.assertIs(is_run(DUO, ECHO, MUTE, run_of(DUO, (), MUTE, goal)), goal < 3)
        self.assertIs(is_run(DUO, (), MUTE, NOTHING), True)
        self.assertIs(is_run(((), ()), (), MUTE, NOTHING), True)
        self.assertIs(is_run(((), ()), (), MUTE, (("a",), ((0,),), ((None,),))), False)

    def test_goals_above_the_last_are_none(self):
        one = project(a=LEVEL)
        for goal in (LAST, LAST + 1):
            thing = (("a",), ((5,) * goal,), ((0,) * goal,))
            self.assertIs(is_run(one, (), MUTE, thing), goal == LAST)

    def test_names_that_stand_below_the_goal_alone(self):
        entries = ((4, None, ("put", "c", "level", (5,), ())),)
        names, worths, states = run_of(DUO, entries, MUTE, 4)
        self.same(names, ("a", "b"))
        self.assertIs(is_run(DUO, entries, MUTE, (names, worths, states)), True)
        more = (names + ("c",), worths + ((0,) * 4,), states + ((None,) * 4,))
        self.assertIs(is_run(DUO, entries, MUTE, more), False)
        self.assertIs(is_run(DUO, entries, MUTE, run_of(DUO, entries, MUTE, 5)), True)

    def test_what_is_given(self):
        told = run_of(FED, (), ((), (1, 2, 3), (), ()), 5)
        self.assertIs(is_run(FED, (), ((), (1, 2, 3), (), ()), told), True)
        self.assertIs(is_run(FED, (), ((7,), (1, 2, 3, 0, 0, 9), (), ()), told), True)
        self.assertIs(is_run(FED, (), ((), (1, 2), (), ()), told), False)
        self.assertIs(is_run(FED, (), MUTE, told), False)

    def test_states_are_states(self):
        source = drawing(65)
        for _ in range(60):
            one = let_project(source, has_notes, names=NAMES[:3], most=3)
            names, _, states = run_of(one, (), MUTE, 5)
            plain = Plain(one, (), 5)
            for name, row in zip(names, states):
                for sample, state in enumerate(row):
                    kind, _, knobs, _ = plain.box(name, sample)
                    self.assertIs(is_state(kind, knobs, state), True)
