"""Seeds, cones, and free runs [9], [65], [66], [67], and what follows [11], [72]."""

from samesamples.cones import cone_of, seeds_of
from samesamples.conestretches import cone_by_segments
from samesamples.freeruns import free_runs
from samesamples.runs import run_of
from samesamples.scorenotes import has_notes
from helpers import ANYTHING, Case, drawing
from histories import LAST, Plain, drawn_entries, drawn_given, plain_cone, plain_seeds
from projects import DUO, ECHO, LEVEL, MUTE, NAMES, let_project, mix, project, voices
from scores import NOTE, SONG, song

TOP = 1048575
SIMPLE = ("mix", "mix", "peak", "gain", "clock", "feed")


def clock(first=0):
    return "clock", 0, (first, 0, 100), ()


def places_in(cone):
    return {(name, sample) for name, stretches in cone for low, high in stretches for sample in range(low, high)}


def put(name, box):
    return ("put", name) + box[:1] + box[2:]


class Cones(Case):
    def told(self, one, ones, others, goal):
        """Seeds and cone of two histories, looked at beside the plain ones, and beside all ways to tell them."""
        seeds, cone = seeds_of(one, ones, others, goal), cone_of(one, ones, others, goal)
        history, other = Plain(one, ones, goal), Plain(one, others, goal)
        self.same(seeds, plain_seeds(history, other))
        names = sorted(set(history.names) | set(other.names))
        touched = plain_cone(history, seeds, names)
        self.assertEqual(touched, plain_cone(other, seeds, names))
        self.assertEqual(places_in(cone), touched)
        self.check_form(cone)
        self.same(cone_by_segments(one, ones, others, goal), cone)
        self.same((seeds_of(one, others, ones, goal), cone_of(one, others, ones, goal)), (seeds, cone))
        self.same(cone_by_segments(one, others, ones, goal), cone)
        self.check_free(one, ones, others, goal, touched)
        return seeds, cone

    def check_form(self, cone):
        names = [name for name, _ in cone]
        self.assertEqual(names, sorted(set(names)))
        for _, stretches in cone:
            self.assertTrue(stretches)
            bounds = [bound for stretch in stretches for bound in stretch]
            self.assertEqual(bounds, sorted(set(bounds)))

    def check_free(self, one, ones, others, goal, touched):
        """The numbers of the free runs are unlike exactly at touched places."""
        tables = free_runs(one, ones, others, goal)
        for table, entries in zip(tables, (ones, others)):
            self.assertEqual(tuple(name for name, _ in table), run_of(one, entries, MUTE, goal)[0])
            self.assertTrue(all(len(numbers) == goal for _, numbers in table))
        first, second = dict(tables[0]), dict(tables[1])
        for name in sorted(set(first) | set(second)):
            for sample in range(goal):
                numbers = [table[name][sample] if name in table else 0 for table in (first, second)]
                self.assertEqual(numbers[0] != numbers[1], (name, sample) in touched)
        self.check_keys(one, ones, others, goal, (first, second))

    def check_keys(self, one, ones, others, goal, tables):
        """Equal keys have equal numbers and unlike keys unlike ones, all from 1 to TOP."""
        number_of, key_of = {}, {}
        for table, entries in zip(tables, (ones, others)):
            history = Plain(one, entries, goal)
            for name in history.names:
                for sample in range(goal):
                    box, number = history.box(name, sample), table[name][sample]
                    if box is None:
                        self.assertEqual(number, 0)
                        continue
                    state = table[name][sample - 1] if history.is_carried(name, sample) else 0
                    worths = tuple(0 if place is None else table[place[0]][place[1]] for place in history.reads(name, sample))
                    key = (name, sample, box[0], box[2], state, worths)
                    self.assertTrue(1 <= number <= TOP)
                    self.assertEqual((number_of.setdefault(key, number), key_of.setdefault(number, key)), (number, key))

    def test_duo(self):
        self.same(self.told(DUO, (), ECHO, 4), ((("b", 2), ("b", 3)), (("b", ((2, 4),)),)))
        self.same(self.told(DUO, (), ((0, None, ("anew", "a")),), 9), ((), ()))
        self.same(self.told(DUO, (), ((1, None, ("anew", "a")),), 4), ((("a", 1),), (("a", ((1, 4),)), ("b", ((1, 4),)))))
        for entries in ((), ECHO):
            self.same(self.told(DUO, entries, entries, 6), ((), ()))
        self.same(self.told(DUO, (), ECHO, 0), ((), ()))
        self.same(self.told(DUO, (), ECHO, 2), ((), ()))

    def test_seeds_of_names_that_stand_in_one_alone(self):
        one = project(a=LEVEL)
        seeds, cone = self.told(one, ((3, 5, ("off", "a")),), (), 8)
        # Behind it the box starts anew in the one history, and is carried in the other.
        self.same((seeds, cone), ((("a", 3), ("a", 4), ("a", 5)), (("a", ((3, 8),)),)))
        self.same(self.told(one, (), ((3, 5, put("c", LEVEL)),), 8), ((("c", 3), ("c", 4)), (("c", ((3, 5),)),)))
        self.same(self.told(((), ()), (), ((3, 5, put("c", LEVEL)), (7, None, put("c", LEVEL))), 9)[1], (("c", ((3, 5), (7, 9))),))
        # Stretches that touch are one, whatever they come of.
        self.same(self.told(((), ()), ((3, 5, put("c", LEVEL)),), ((5, 7, put("c", LEVEL)),), 9)[1], (("c", ((3, 7),)),))

    def test_several_stretches(self):
        def stands(*spans):
            return tuple((low, high, put("c", LEVEL)) for low, high in spans)

        nothing = (), ()
        self.same(self.told(nothing, stands((1, 2), (4, 6)), stands((6, 8)), 9)[1], (("c", ((1, 2), (4, 8))),))
        self.same(self.told(nothing, (), stands((1, 2), (3, 4), (5, 6), (6, 7)), 9)[1], (("c", ((1, 2), (3, 4), (5, 7))),))

    def test_seeds_by_kinds_and_knobs(self):
        one = project(a=LEVEL)
        self.same(self.told(one, (), ((2, 4, ("knobs", "a", (6,))),), 6), ((("a", 2), ("a", 3)), (("a", ((2, 6),)),)))
        self.same(self.told(one, (), ((2, 4, ("knobs", "a", (5,))),), 6), ((), ()))
        self.same(self.told(one, (), ((2, 4, put("a", clock())),), 6), ((("a", 2), ("a", 3), ("a", 4)), (("a", ((2, 6),)),)))
        # Kinds differ even where knobs and inlets are alike.
        one = project(a=("peak", 0, (3,), (None,)))
        self.same(self.told(one, (), ((0, None, put("a", ("mean", 0, (3,), (None,)))),), 3)[0], (("a", 0), ("a", 1), ("a", 2)))
        # Two scores with the same notes settle alike.
        loud = ("loud", 7), ("loud", 4096), NOTE
        tune = project({"s": song((NOTE,)), "t": song(loud)}, v=("voices", 0, voices("s"), (None,)))
        self.same(self.told(tune, (), ((2, None, ("knobs", "v", voices("t"))),), 5), ((), ()))
        self.same(self.told(tune, (), ((2, None, ("score", "s", song(loud))),), 5), ((), ()))
        self.same(self.told(tune, (), ((2, 3, ("score", "s", SONG)),), 5), ((("v", 2),), (("v", ((2, 5),)),)))

    def test_seeds_by_what_is_carried(self):
        one = project(a=clock())
        self.same(self.told(one, (), ((3, None, ("anew", "a")),), 6)[0], (("a", 3),))
        self.same(self.told(one, (), ((3, 5, ("anew", "a")),), 8)[0], (("a", 3), ("a", 5)))
        self.same(self.told(one, (), ((0, None, ("anew", "a")),), 6), ((), ()))
        # The marks differ, but both boxes are carried but at 3.
        self.same(self.told(one, ((3, None, ("anew", "a")),), ((5, 5, ("off", "b")), (3, None, ("anew", "a"))), 6), ((), ()))
        # A box that is anew at once in both is carried in neither.
        self.same(self.told(one, ((3, None, ("anew", "a")),), ((3, 6, ("anew", "a")),), 8)[0], (("a", 6),))

    def test_seeds_by_what_inlets_read(self):
        one = project(a=LEVEL, b=mix(("a", 1)), c=mix(None))
        self.same(self.told(one, (), ((2, None, ("wire", "c", 0, "a", 0)),), 4)[0], (("c", 2), ("c", 3)))
        # A wire that reaches ahead of sample 0 reads as little as a loose inlet, or another such wire.
        self.same(self.told(one, (), ((0, None, ("wire", "c", 0, "a", 3)),), 5)[0], (("c", 3), ("c", 4)))
        self.same(self.told(one, ((0, None, ("wire", "c", 0, "b", 4)),), ((0, None, ("wire", "c", 0, "a", 3)),), 6)[0], (("c", 3), ("c", 4), ("c", 5)))
        # So does a wire to where its source did not stand.
        entries = ((3, None, ("all", (put("d", LEVEL), ("wire", "c", 0, "d", 2)))),)
        more = ((3, None, put("d", LEVEL)),)
        self.same(self.told(one, more, entries, 8)[0], (("c", 5), ("c", 6), ("c", 7)))
        # The same wire reads unlike things where its source stood in one alone.
        both = ((4, None, ("all", (put("d", LEVEL), ("wire", "c", 0, "d", 3)))),)
        alone = ((1, 3, put("d", LEVEL)),) + both
        self.same(self.told(one, both, alone, 9)[0], (("c", 4), ("c", 5), ("d", 1), ("d", 2)))

    def test_a_touched_source_that_does_not_stand_is_not_read(self):
        # d stands in other alone from 0 to 2, and c's wire to it stands in one alone: both inlets read nothing at 4.
        one = project(c=mix(None))
        ones = ((4, None, ("all", (put("d", LEVEL), ("wire", "c", 0, "d", 3)))),)
        others = ((0, 3, put("d", LEVEL)), (4, None, put("d", LEVEL)))
        self.same(self.told(one, ones, others, 7), ((("d", 0), ("d", 1), ("d", 2)), (("d", ((0, 3),)),)))
        self.same(self.told(one, ones, others, 9)[0], (("c", 7), ("c", 8), ("d", 0), ("d", 1), ("d", 2)))

    def test_what_hangs_on_seeds(self):
        one = project(a=clock(), b=mix(("a", 0)), c=mix(("b", 3)), d=mix(("c", 0), ("d", 1)), e=mix(("e", 1)))
        cone = self.told(one, (), ((2, 3, ("knobs", "a", (7, 0, 50))),), 9)[1]
        self.same(cone, (("a", ((2, 9),)), ("b", ((2, 9),)), ("c", ((5, 9),)), ("d", ((5, 9),))))
        # What starts anew in both does not hang on what was ahead.
        anew = ((4, None, ("all", (("off", "d"), ("off", "c"), ("off", "b"), put("a", clock(3))))),)
        anew = anew + ((4, None, ("anew", "a")),)
        cone = self.told(one, anew, anew + ((2, 3, ("knobs", "a", (7, 0, 50))),), 9)[1]
        self.same(cone, (("a", ((2, 4),)), ("b", ((2, 4),))))
        # Away from its source for a while, a box is touched again when it reads what was touched.
        one = project(a=LEVEL, b=mix(None))
        ones = ((5, None, ("anew", "a")), (5, None, ("anew", "b")), (6, None, ("wire", "b", 0, "a", 3)))
        cone = self.told(one, ones, ones + ((2, 3, ("knobs", "a", (9,))),), 12)[1]
        self.same(cone, (("a", ((2, 5),)), ("b", ((6, 12),))))

    def test_entries_that_sleep(self):
        asleep = ("off", "z")
        self.same(self.told(DUO, (), ((1, None, asleep), (2, 5, asleep)), 7), ((), ()))
        # One entry more lets another one sleep, or wake.
        ones = ((3, None, ("knobs", "c", (6,))), (1, None, put("c", LEVEL)))
        self.same(self.told(DUO, ones, ones[:1], 5)[0], (("c", 1), ("c", 2), ("c", 3), ("c", 4)))
        self.same(self.told(DUO, ones, ones + ((2, 4, ("off", "c")),), 6)[0], (("c", 2), ("c", 3), ("c", 4)))

    def test_drawn_histories(self):
        source = drawing(66)
        touched = 0
        for _ in range(150):
            kinds = source.choice((SIMPLE, SIMPLE, None))
            more = {} if kinds is None else {"kinds": kinds}
            one = let_project(source, has_notes, least=2, most=4, **more)
            more["names"] = tuple(name for name, _ in one[0]) + ("e",)
            ones = drawn_entries(source, 6, 9, **more)
            others = source.choice((ones + drawn_entries(source, 4, 9, **more), drawn_entries(source, 8, 9, **more)))
            seeds, cone = self.told(one, ones, others, source.randint(5, 13))
            touched += bool(cone)
            self.assertLessEqual(set(seeds), places_in(cone))
        self.assertTrue(70 < touched < 148, touched)

    def test_segments_of_drawn_histories(self):
        source = drawing(67)
        for _ in range(300):
            one = let_project(source, has_notes, least=2, kinds=SIMPLE, farthest=12, most=5)
            ones = drawn_entries(source, 9, 40, kinds=SIMPLE, names=NAMES[:4], farthest=12)
            others = source.choice((ones[:-1], ones[1:], drawn_entries(source, 9, 40, kinds=SIMPLE, names=NAMES[:4], farthest=12)))
            goal = source.choice((17, 45, 60))
            self.same(cone_by_segments(one, ones, others, goal), cone_of(one, ones, others, goal))

    def test_far_goals(self):
        one = project(a=clock(), b=mix(("a", 2047)), c=mix(("b", 100), ("c", 1)), d=mix(("d", 1)))
        others = ((37, 1100, ("anew", "a")),)
        for goal in (38, 2000, 2084, 2085, 2184, 2185, 5000):
            cone = cone_of(one, (), others, goal)
            self.same(cone_by_segments(one, (), others, goal), cone)
            told = {"a": ((37, goal),), "b": ((2084, goal),), "c": ((2184, goal),)}
            self.same(cone, tuple((name, ((low, high),)) for name, ((low, high),) in told.items() if low < goal))
        self.same(cone_by_segments(one, (), others, LAST), (("a", ((37, LAST),)), ("b", ((2084, LAST),)), ("c", ((2184, LAST),))))

    def test_what_is_not_touched_is_the_same(self):
        # [11] (G3), with the kinds' own filling
        source = drawing(68)
        parted = 0
        for _ in range(80):
            one = let_project(source, has_notes, least=2, most=4)
            names = tuple(name for name, _ in one[0]) + ("e",)
            ones = drawn_entries(source, 3, 9, names=names)
            others = ones + drawn_entries(source, 2, 9, names=names)
            given = drawn_given(source)
            touched = places_in(cone_of(one, ones, others, 12))
            tables = []
            for entries in (ones, others):
                names, worths, states = run_of(one, entries, given, 12)
                tables.append({(name, sample): (worths[at][sample], states[at][sample]) for at, name in enumerate(names) for sample in range(12)})
            for place in set(tables[0]) | set(tables[1]):
                pair = [table.get(place, (0, None)) for table in tables]
                if place not in touched:
                    self.same(pair[0], pair[1])
                parted += pair[0] != pair[1]
        self.assertTrue(parted > 100)

    def test_wrong_inputs(self):
        for function in (seeds_of, cone_of, cone_by_segments, free_runs):
            for thing in ANYTHING:
                if thing != ():
                    self.refuses("one", function, DUO, thing, None, None)
                    self.refuses("other", function, DUO, (), thing, None)
                if isinstance(thing, bool) or not isinstance(thing, int) or not 0 <= thing <= LAST:
                    self.refuses("goal", function, DUO, (), (), thing)
            self.refuses("one", function, DUO, ((5, 4, ("off", "a")),), DUO, 0)
            self.refuses("other", function, DUO, (), DUO, 0)
            self.refuses("goal", function, DUO, ECHO, (), LAST + 1)
            self.same(function(project=DUO, one=(), other=(), goal=0), ((), ()) if function is free_runs else ())

    def test_asked_twice(self):
        for _ in range(2):
            self.same(cone_of(DUO, (), ECHO, 5), (("b", ((2, 5),)),))
            self.same(cone_of(DUO, ECHO, ECHO, 5), ())
            self.same(free_runs(DUO, (), ECHO, 5)[0], free_runs(DUO, (), ECHO, 5)[0])
