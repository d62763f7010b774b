"""Steps and workings, rounds, needs and pulls of an engine [83] to [88], and what follows [11], [92]."""

from samesamples.aheads import go_ahead, needed_now
from samesamples.choices import steps_left
from samesamples.driving import worked
from samesamples.engine import Engine
from samesamples.errors import AcrossSeam, HandBusy, LongBuffer, NoName, NotGiven, TooFar, Uneven
from samesamples.loading import loaded
from samesamples.pulls import pull
from samesamples.reachnow import reach_now
from samesamples.rounds import buffer_now, go_rounds
from samesamples.runs import run_of
from samesamples.scorenotes import has_notes
from engines import LAST, not_numbers, work
from helpers import ANYTHING, Case, drawing, same
from histories import drawn_deed, drawn_entries
from projects import DUO, FED, LEVEL, MUTE, let_project, mix, project

FEW = ("mix", "mix", "clock", "level", "peak", "feed")
CLOCK = ("clock", 0, (0, 0, 30000), ())
APART = project(a=CLOCK, b=CLOCK, c=mix(("a", 0)))


class Refusals(Case):
    def changes_nothing(self, error, fields, engine, function, *args):
        before = engine.save()
        self.raises(error, fields, function, engine, *args)
        self.same(engine.save(), before)

    def refuses_and_keeps(self, word, engine, function, *args):
        before = engine.save()
        self.refuses(word, function, engine, *args)
        self.same(engine.save(), before)


class Stepping(Refusals):
    def test_sequence_of_the_steps(self):
        engine = Engine(APART, ("b", "e"))
        self.same(steps_left(engine, 2, (1, 2, 3), 1), tuple(("begin", 0, name, size) for name in "abe" for size in (1, 2)))
        engine.begin(5, "b", 2)
        engine.begin(0, "e", 1)
        # Ends stand first, of hands beyond the number too; the least free hand begins.
        self.same(steps_left(engine, 2, (1, 2), 2), (("end", 0), ("end", 5), ("begin", 1, "a", 1), ("begin", 1, "a", 2)))
        self.same(steps_left(engine, 1, (1, 2), 16), (("end", 0), ("end", 5), ("begin", 1, "a", 1)))
        # No hand below the number is left.
        self.same(steps_left(engine, 2, (1, 2), 1), (("end", 0), ("end", 5)))
        self.same(steps_left(engine, 0, (1, 2), 16), (("end", 0), ("end", 5)))

    def test_hands_beyond_the_number_do_not_keep_others_from_beginning(self):
        engine = Engine(APART, ("b",))
        engine.begin(1, "a", 1)
        self.same(steps_left(engine, 1, (1,), 1), (("end", 1), ("begin", 0, "b", 1)))
        engine.begin(0, "b", 1)
        self.same(steps_left(engine, 9, (1,), 2), (("end", 0), ("end", 1)))
        self.same(steps_left(engine, 9, (1,), 3), (("end", 0), ("end", 1)))

    def test_struck_slips(self):
        engine = Engine(APART, ("b",))
        engine.begin(0, "a", 4)
        engine.change(2, ("anew", "a"))
        # The struck slip keeps its hand, not its name.
        self.same(steps_left(engine, 1, (1,), 2), (("end", 0), ("begin", 1, "a", 1), ("begin", 1, "b", 1)))
        self.same(worked(engine, 3, (0,), (1, 2), 2), 9)
        self.same(engine.fronts(), (("a", 3), ("b", 3), ("c", 3)))

    def test_sizes_that_do_not_fit_or_are_not_ready(self):
        engine = Engine(DUO, ("b",))
        work(engine, "a", 4)
        self.same(steps_left(engine, 6, (1, 2, 3), 1), (("begin", 0, "a", 1), ("begin", 0, "a", 2), ("begin", 0, "b", 1)))
        self.same(steps_left(engine, 4, (1, 2, 3), 1), (("begin", 0, "b", 1),))
        self.same(steps_left(engine, 3, (1,), 1), (("begin", 0, "b", 1),))
        self.same(steps_left(engine=engine, goal=0, sizes=(1,), hands=1), ())
        one = Engine(project(a=LEVEL, b=mix(("a", 1), ("b", 3))), ("b",))
        work(one, "a", 5)
        self.same(steps_left(one, 9, (1, 2, 3, 4, 5), 1)[4:], tuple(("begin", 0, "b", size) for size in (1, 2, 3)))

    def test_examples(self):
        engine = Engine(DUO, ("b",))
        self.same(steps_left(engine, 3, (1, 2), 2), (("begin", 0, "a", 1), ("begin", 0, "a", 2)))
        self.same(worked(engine, 3, (1,), (1, 2), 2), 5)
        self.same((engine.fronts(), engine.busy()), ((("a", 3), ("b", 3)), ()))

    def test_picks(self):
        for picks, hands, jobs in (((0,), 1, 6), ((1,), 1, 5), ((5, 3), 3, 5), ((10 ** 59 + 1,), 2, 5)):
            engine = Engine(DUO, ("b",))
            self.same(worked(engine, goal=3, picks=picks, sizes=(1, 2), hands=hands), jobs)
            self.same(engine.fronts(), (("a", 3), ("b", 3)))

    def test_goals_at_and_below_fronts(self):
        engine = Engine(DUO, ("b",))
        worked(engine, 4, (0,), (1,), 1)
        self.same((worked(engine, 4, (0,), (1,), 1), worked(engine, 2, (0,), (1,), 1)), (0, 0))
        engine.begin(9, "a", 2)
        # Busy hands are ended all the same.
        self.same((worked(engine, 0, (0,), (1,), 1), engine.fronts(), engine.busy()), (0, (("a", 6), ("b", 4)), ()))

    def test_to_the_last(self):
        engine = Engine(project(a=CLOCK), ("a",))
        self.same(worked(engine, LAST, (1, 0, 0), (1, 2048), 1), worked_jobs())
        self.same(engine.front("a"), LAST)

    def test_whatever_the_picks(self):
        """[11] (G5), [92]: each front is what reach_now told; there are at most as many jobs as places."""
        source = drawing(83)
        stuck = 0
        for _ in range(60):
            one = let_project(source, has_notes, least=2, most=4, kinds=FEW + ("feed", "mix"))
            names = tuple(name for name, _ in one[0]) + ("ee",)
            engine = Engine(one, names[-1:], drawn_entries(source, 3, 7, names=names, kinds=FEW))
            for channel in range(4):
                engine.give(channel, (1,) * source.randint(0, 9))
            for hand, name in enumerate(names):
                if source.random() < 0.3 and engine.ready(name, 2) is None:
                    engine.begin(hand, name, 2)
            if source.random() < 0.5:
                engine.change(0, ("all", (("put", "n", "level", (5,), ()),)))
            saved, goal = engine.save(), source.randint(0, 10)
            reach = reach_now(engine, (), goal)
            taken = [name for _, name, _, _, struck in engine.busy() if not struck]
            ends = dict(reach_now(engine, engine.names(), goal))
            most = sum(max(goal - ends[name], 0) for name in ends)
            self.assertTrue(set(taken) <= set(ends))
            for picks, sizes, hands in (((0,), (1,), 1), ((3, 1, 4, 1, 5), (1, 2, 5), 3), ((2, 7), (1, 4, 2048), 16)):
                one = loaded(saved)
                self.assertLessEqual(worked(one, goal, picks, sizes, hands), most)
                self.same((one.busy(), tuple((name, one.front(name)) for name, _ in reach)), ((), reach))
                self.assertFalse([step for step in steps_left(one, goal, (1,), 1)])
            stuck += any(told < goal for _, told in reach)
        self.assertTrue(stuck > 10, stuck)

    def test_names_left_alone(self):
        """[92]: no jobs of names outside still bring a front above what reach_now told."""
        source = drawing(84)
        for _ in range(40):
            one = let_project(source, has_notes, least=2, most=4, kinds=FEW[:5])
            names = tuple(name for name, _ in one[0])
            still = (source.choice(names),)
            engine = Engine(one, names[:1])
            reach = dict(reach_now(engine, still, 9))
            fresh = True
            while fresh:
                fresh = [name for name in names if name not in still and engine.front(name) < 9 and engine.ready(name, 1) is None]
                for name in fresh:
                    if engine.ready(name, 1) is None:
                        work(engine, name, 1)
            self.same({name: engine.front(name) for name in names}, {name: reach[name] for name in names})

    def test_wrong_inputs(self):
        engine = Engine(DUO, ("b",))
        for thing in not_numbers(0, 1, 7) + [LAST + 1]:
            self.refuses("goal", steps_left, engine, thing, None, None)
            self.refuses("goal", worked, engine, thing, None, None, None)
        for thing in ANYTHING:
            if not any(same(thing, one) for one in ((1,), (0, 1), (1, 2), (2, 4), (1, 0))):
                self.refuses("picks", worked, engine, 0, thing, None, None)
            if not any(same(thing, one) for one in ((1,), (1, 2))):
                self.refuses("sizes", steps_left, engine, 0, thing, None)
                self.refuses("sizes", worked, engine, 0, (0,), thing, None)
        self.refuses("picks", worked, engine, 0, (), (1,), 1)
        for sizes in ((1, 1), (2, 3), (1, 3, 2), (1, 2049), (0, 1), [1, 2], (1, True), (1, None)):
            self.refuses("sizes", steps_left, engine, 0, sizes, 1)
        for thing in not_numbers(1, 7) + [17]:
            self.refuses("hands", steps_left, engine, 0, (1,), thing)
            self.refuses("hands", worked, engine, 0, (0,), (1,), thing)


def worked_jobs():
    """How many jobs lead a lone name to LAST, by the picks of test_to_the_last."""
    front = count = jobs = 0
    busy = False
    while busy or front < LAST:
        steps = ["end"] if busy else [size for size in (1, 2048) if front + size <= LAST]
        step = steps[(1, 0, 0)[count % 3] % len(steps)]
        if step == "end":
            busy = False
        else:
            busy, front, jobs = True, front + step, jobs + 1
        count += 1
    return jobs


class Rounds(Refusals):
    def test_example(self):
        engine = Engine(DUO, ("b",))
        self.same((buffer_now(engine), go_rounds(engine, (1, 2)), engine.fronts()), (1, 4, (("a", 2), ("b", 2))))
        self.changes_nothing(LongBuffer, (1,), Engine(DUO, ("b",)), go_rounds, (1, 3))

    def test_greatest_buffer(self):
        one = project(a=mix(("b", 2), ("a", 5)), b=mix(("a", 3)))
        engine = Engine(one, ("a",), ((4, 8, ("loose", "a", 0)), (LAST - 1, None, ("loose", "a", 1))))
        self.same((buffer_now(engine), go_rounds(engine, (3, 4)), buffer_now(engine)), (3, 4, 5))
        self.changes_nothing(AcrossSeam, (8,), engine, go_rounds, (9,))
        self.same((go_rounds(engine, (8,)), buffer_now(engine)), (2, 3))
        self.changes_nothing(LongBuffer, (3,), engine, go_rounds, (10, 14))
        self.same(go_rounds(engine, cuts=(10, 13)), 4)
        self.same(buffer_now(Engine(APART, ("a",))), None)
        self.same(buffer_now(Engine(((), ()), ("a",))), None)

    def test_one_job_each_as_long_as_can_be(self):
        engine = Engine(APART, ("b", "zz"))
        self.same((go_rounds(engine, (2048,)), engine.fronts()), (4, (("a", 2048), ("b", 2048), ("c", 2048), ("zz", 2048))))
        self.same(engine.worths("c", 2046, 2048), (2046, 2047))
        self.refuses_and_keeps("cuts", engine, go_rounds, (4097,))
        self.same(go_rounds(engine, (4095, 6143)), 8)
        self.refuses_and_keeps("cuts", engine, go_rounds, (6144, 8193))
        one = Engine(project(a=mix(("a", 2047))), ("a",))
        self.same((buffer_now(one), go_rounds(one, (2047,))), (2047, 1))
        self.changes_nothing(LongBuffer, (2047,), one, go_rounds, (4095,))

    def test_to_the_last(self):
        engine = Engine(APART, ("b",))
        cuts = tuple(range(2000, LAST + 1, 2000))
        self.same((go_rounds(engine, cuts), engine.front("c")), (30, LAST))
        self.same(buffer_now(engine), None)
        # Behind LAST no cut is as it should be.
        for cuts in ((LAST,), (LAST + 1,), ()):
            self.refuses_and_keeps("cuts", engine, go_rounds, cuts)
        turned = Engine(project(a=CLOCK, b=mix(("a", 1), ("b", 9))), ("b",), ((LAST - 1, None, ("wire", "b", 1, "b", 3)),))
        worked(turned, LAST - 1, (1,), (1, 9), 2)
        self.same(buffer_now(turned), 3)
        worked(turned, LAST, (0,), (1,), 1)
        self.same(buffer_now(turned), 3)

    def test_what_stands_from_last_on_is_no_matter(self):
        one = project(a=mix(("a", 3)))
        engine = Engine(one, ("a",), ((0, LAST, ("wire", "a", 0, "a", 2000)),))
        for cut in range(2000, LAST + 1, 2000):
            self.same((buffer_now(engine), go_rounds(engine, (cut,))), (2000, 1))
        self.same((engine.front("a"), buffer_now(engine)), (LAST, 2000))

    def test_seams(self):
        entries = ((3, None, ("anew", "a")), (5, 9, ("off", "z")), (7, 7, ("off", "z")), (2, LAST, ("anew", "b")))
        engine = Engine(APART, ("b",), entries)
        self.changes_nothing(AcrossSeam, (2,), engine, go_rounds, (4,))
        self.changes_nothing(AcrossSeam, (7,), engine, go_rounds, (2, 3, 5, 8))
        # Entries that never stand have seams, too; at seams rounds may end and begin.
        self.changes_nothing(AcrossSeam, (9,), engine, go_rounds, (1, 2, 3, 4, 5, 7, 10))
        self.same(go_rounds(engine, (2, 3, 5, 7, 9, 30)), 18)
        told = run_of(APART, entries, MUTE, 30)
        self.same(tuple(engine.worths(name, 0, 30) for name in told[0]), told[1])

    def test_names_behind_seams(self):
        entries = ((4, 8, ("put", "d", "mix", ((4096,), 0), (("c", 3),))), (6, None, ("put", "b", "feed", (2,), ())))
        engine = Engine(APART, ("d",), entries)
        engine.give(2, tuple(range(12)))
        self.same(go_rounds(engine, (4, 6, 8, 12)), 16)
        told = run_of(APART, entries, engine.given(), 12)
        self.same(tuple(engine.worths(name, 0, 12) for name in told[0]), told[1])

    def test_hands_and_fronts(self):
        engine = Engine(APART, ("b",))
        engine.begin(7, "a", 1)
        engine.begin(4, "b", 1)
        self.changes_nothing(HandBusy, (4,), engine, go_rounds, (1,))
        engine.change(0, ("knobs", "b", (1, 0, 5)))
        self.changes_nothing(HandBusy, (4,), engine, go_rounds, (1,))
        self.refuses_and_keeps("cuts", engine, go_rounds, (0,))
        for hand in (4, 7):
            engine.end(hand)
        self.changes_nothing(Uneven, ("b",), engine, go_rounds, (2,))
        work(engine, "b", 1)
        self.changes_nothing(Uneven, ("c",), engine, go_rounds, (2,))
        # The first name counts, whichever is ahead; cuts are told by the greatest front.
        work(engine, "b", 4)
        self.refuses_and_keeps("cuts", engine, go_rounds, (5,))
        self.changes_nothing(Uneven, ("b",), engine, go_rounds, (6,))

    def test_errors_in_their_sequence(self):
        one = project(f=("feed", 0, (3,), ()), g=("feed", 0, (1,), ()), h=mix(("f", 0), ("h", 3)))
        engine = Engine(one, ("h",), ((10, 12, ("put", "f", "level", (5,), ())),))
        # All rounds are looked at for seams, then all for their lengths, then for what is given.
        self.changes_nothing(AcrossSeam, (10,), engine, go_rounds, (5, 11))
        self.changes_nothing(AcrossSeam, (12,), engine, go_rounds, (5, 10, 13))
        self.changes_nothing(LongBuffer, (3,), engine, go_rounds, (3, 6, 10))
        self.changes_nothing(NotGiven, (1, 10), engine, go_rounds, (3, 6, 9, 10))
        engine.give(1, (5,) * 13)
        self.changes_nothing(NotGiven, (3, 10), engine, go_rounds, (3, 6, 9, 10, 11, 12))
        self.changes_nothing(NotGiven, (3, 13), engine, go_rounds, (3, 6, 9, 10, 11, 12, 13))
        engine.give(3, (5,) * 10)
        self.same(go_rounds(engine, (3, 6, 9, 10, 11, 12)), 18)
        self.changes_nothing(NotGiven, (3, 13), engine, go_rounds, (13,))
        engine.shut(3)
        self.same(go_rounds(engine, (13,)), 3)

    def test_no_farther_than_the_greatest_buffer(self):
        """[11] (G6): one job each brings all names on just by as much as the greatest buffer allows."""
        source = drawing(86)
        rings = 0
        for _ in range(40):
            one = let_project(source, has_notes, least=2, most=4, kinds=("mix", "mix", "clock"), farthest=5)
            names = [name for name, _ in one[0]]
            greatest = buffer_now(Engine(one, tuple(names[:1])))
            for many in range(1, 8):
                engine = Engine(one, tuple(names[:1]))
                left, fresh = list(names), True
                while fresh:
                    fresh = [name for name in left if engine.ready(name, many) is None]
                    for name in fresh:
                        work(engine, name, many)
                    left = [name for name in left if name not in fresh]
                self.assertEqual(not left, greatest is None or many <= greatest)
            rings += greatest is not None
        self.assertTrue(rings > 8, rings)

    def test_wrong_inputs(self):
        engine = Engine(DUO, ("b",))
        for thing in ANYTHING:
            if not any(same(thing, one) for one in ((1,), (1, 2), (2, 4))):
                self.refuses("cuts", go_rounds, engine, thing)
        for cuts in ([1], (2, 2), (2, 1), (0, 1), (1, 2, 2050, 4099), (2049,), (1, None)):
            self.refuses("cuts", go_rounds, engine, cuts)


class Aheads(Refusals):
    def test_example(self):
        engine = Engine(DUO, ("b",))
        go_rounds(engine, (1, 2))
        self.same((needed_now(engine, "b", 3), go_ahead(engine, "a", 4), engine.fronts()), ((("a", 3), ("b", 3)), (("a", 4),), (("a", 4), ("b", 2))))

    def test_just_what_is_needed(self):
        one = project(a=CLOCK, b=mix(("a", 3)), c=mix(("b", 0), ("c", 1)), d=mix(("c", 2)))
        engine = Engine(one, ("d",), ((5, 7, ("off", "d")),))
        self.same(go_ahead(engine=engine, name="c", until=6), (("a", 3), ("b", 6), ("c", 6)))
        self.same(engine.fronts(), (("a", 3), ("b", 6), ("c", 6)))
        self.same((go_ahead(engine, "c", 6), go_ahead(engine, "c", 2)), ((), ()))
        self.same((go_ahead(engine, "d", 9), engine.fronts()), ((("a", 4), ("b", 7), ("c", 7), ("d", 9)), (("a", 4), ("b", 7), ("c", 7), ("d", 9))))
        told = run_of(one, engine.entries(), MUTE, 9)
        self.same(engine.worths("d", 0, 9), told[1][3])

    def test_open_slips_are_not_looked_at(self):
        engine = Engine(DUO, ("b",))
        engine.begin(3, "a", 5)
        self.same(needed_now(engine, "b", 3), (("a", 3), ("b", 3)))
        self.changes_nothing(HandBusy, (3,), engine, go_ahead, "b", 3)
        self.changes_nothing(HandBusy, (3,), engine, go_ahead, "b", 0)
        engine.change(0, ("knobs", "a", (1, 0, 5)))
        self.changes_nothing(HandBusy, (3,), engine, go_ahead, "b", 3)

    def test_names(self):
        engine = Engine(DUO, ("zz",))
        engine.begin(3, "a", 5)
        self.changes_nothing(NoName, ("y",), engine, needed_now, "y", 3)
        self.changes_nothing(NoName, ("y",), engine, go_ahead, "y", 3)
        engine.end(3)
        self.same((needed_now(engine, "zz", 3), go_ahead(engine, "zz", 3), engine.front("zz")), ((("zz", 3),), (("zz", 3),), 3))

    def test_what_is_not_given(self):
        engine = Engine(FED, ("g",))
        self.same(needed_now(engine, "g", 6), (("f", 4), ("g", 6)))
        self.changes_nothing(NotGiven, (1, 4), engine, go_ahead, "g", 6)
        self.changes_nothing(NotGiven, (1, 1), engine, go_ahead, "f", 1)
        engine.give(1, (7, 8, 9))
        self.changes_nothing(NotGiven, (1, 4), engine, go_ahead, "g", 6)
        self.same((go_ahead(engine, "g", 5), engine.worths("g", 0, 5)), ((("f", 3), ("g", 5)), (0, 0, 7, 8, 9)))
        engine.shut(1)
        self.same((go_ahead(engine, "g", 6), engine.worths("g", 5, 6)), ((("f", 4), ("g", 6)), (0,)))
        # The least channel is told, and feeds below the fronts ask for nothing.
        one = project(e=("feed", 0, (3,), ()), f=("feed", 0, (1,), ()), g=mix(("e", 1), ("f", 2)))
        engine = Engine(one, ("g",), ((1, None, ("knobs", "e", (2,))),))
        engine.give(3, (5,))
        go_ahead(engine, "e", 1)
        self.changes_nothing(NotGiven, (1, 1), engine, go_ahead, "g", 3)
        engine.give(1, (5, 5))
        self.changes_nothing(NotGiven, (2, 2), engine, go_ahead, "g", 3)

    def test_wrong_inputs(self):
        engine = Engine(DUO, ("b",))
        for function in (needed_now, go_ahead):
            for thing in ANYTHING:
                if thing not in ("a", "down"):
                    self.refuses("name", function, engine, thing, None)
            for thing in not_numbers(0, 1, 7) + [LAST + 1]:
                self.refuses("until", function, engine, "zz", thing)


class Pulls(Refusals):
    def test_just_what_is_needed(self):
        one = project(a=CLOCK, b=mix(("a", 3)), c=mix(("b", 0), ("c", 1)), d=mix(("c", 2)), e=CLOCK)
        engine = Engine(one, ("d", "b"))
        self.same((pull(engine=engine, many=5), engine.heard()), (((0, 0), (0, 0), (0, 0), (0, 0), (0, 1)), 5))
        self.same(engine.fronts(), (("a", 2), ("b", 5), ("c", 3), ("d", 5)))
        # What is worked out already is only heard.
        go_ahead(engine, "d", 8)
        before = engine.fronts()
        self.same((pull(engine, 2), engine.fronts()), (((0, 2), (1, 3)), (("a", 4), ("b", 7)) + before[2:]))

    def test_pieces(self):
        """[92]: pulls of j and of k samples tell together what one of j + k tells."""
        source = drawing(88)
        for _ in range(30):
            one = let_project(source, has_notes, least=2, most=4)
            names = tuple(name for name, _ in one[0])
            entries = drawn_entries(source, 3, 9, names=names)
            engine, other = Engine(one, names[:2], entries), Engine(one, names[:2], entries)
            for channel in range(4):
                engine.give(channel, (5, 6, 7))
                other.give(channel, (5, 6, 7))
                engine.shut(channel)
                other.shut(channel)
            if source.random() < 0.5:
                other.seal()
            told = pull(engine, 12)
            self.same(told, pull(other, 5) + pull(other, 1) + pull(other, 6))
            names_told, worths, _ = run_of(one, entries, engine.given(), 12)
            table = dict(zip(names_told, worths))
            self.same(told, tuple(zip(*[table.get(name, (0,) * 12) for name in names[:2]])))

    def test_errors_in_their_sequence(self):
        engine = Engine(project(a=CLOCK, f=("feed", 0, (2,), ())), ("a", "f"))
        for cut in range(2000, LAST, 2000):
            engine.give(2, (1,) * 2000)
            go_rounds(engine, (cut,))
            engine.hear(2000)
        engine.give(2, (1,) * 1000)
        pull(engine, 1000)
        engine.begin(6, "a", 1)
        self.changes_nothing(HandBusy, (6,), engine, pull, 1001)
        engine.drop(6)
        self.changes_nothing(TooFar, (LAST + 1,), engine, pull, 1001)
        self.changes_nothing(NotGiven, (2, LAST), engine, pull, 1000)
        self.changes_nothing(NotGiven, (2, LAST - 999), engine, pull, 1)
        engine.give(2, (1,) * 1000)
        self.same((pull(engine, 999)[-1], pull(engine, 1), engine.heard()), ((LAST - 2, 1), ((LAST - 1, 1),), LAST))
        self.changes_nothing(TooFar, (LAST + 2048,), engine, pull, 2048)

    def test_as_many_as_can_be(self):
        engine = Engine(project(a=CLOCK), ("a", "zz"))
        self.same(pull(engine, 2048)[-1], (2047, 0))

    def test_needs_by_the_fronts_ahead_of_the_call(self):
        # Changes that come are looked at by what stands then, not before.
        engine = Engine(DUO, ("b",), ((3, 5, ("put", "b", "level", (9,), ())),))
        self.same((pull(engine, 5), engine.fronts()), (((0,), (1,), (3,), (9,), (9,)), (("a", 3), ("b", 5))))

    def test_wrong_inputs(self):
        engine = Engine(DUO, ("b",))
        for thing in not_numbers(1, 7) + [2049]:
            self.refuses("many", pull, engine, thing)
        self.same(engine.save(), Engine(DUO, ("b",)).save())


class Pressing(Refusals):
    def test_what_was_heard_is_the_run_of_what_stands(self):
        """[11] (G1), by far jobs, pulls and rounds between drawn changes."""
        source = drawing(89)
        for _ in range(25):
            one = let_project(source, has_notes, least=2, most=4, kinds=FEW, farthest=6)
            names = tuple(name for name, _ in one[0])
            engine = Engine(one, names[:2])
            for channel in range(4):
                engine.give(channel, tuple(range(channel, 80 + channel)))
            told = ()
            for _ in range(9):
                told += pull(engine, source.randint(1, 8))
                for _ in range(2):
                    try:
                        engine.change(source.randint(0, 70), drawn_deed(source, names=names, kinds=FEW, farthest=6))
                        worked(engine, engine.heard() + source.randint(0, 5), (source.randint(0, 9),), (1, 3, 9), 3)
                        if source.random() < 0.3:
                            engine.undo(source.randint(0, 70))
                    except ValueError:
                        pass
            names_told, worths, _ = run_of(one, engine.entries(), engine.given(), len(told))
            table = dict(zip(names_told, worths))
            self.same(told, tuple(zip(*[table.get(name, (0,) * len(told)) for name in names[:2]])))
