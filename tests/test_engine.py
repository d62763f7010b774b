"""The engine at work: what is given, jobs, what is heard [10], [73] to [76], questions and the seal [78], [79]."""

from samesamples.engine import Engine
from samesamples.errors import Gone, HandBusy, NameTaken, NoName, NoSlip, NotReady, NotYet, Sealed, Shut, TooFar
from samesamples.runs import run_of
from engines import LAST, not_numbers, work
from helpers import ANYTHING, Case
from projects import DUO, ECHO, FED, LEVEL, MUTE, mix, project

COUNTER = project(a=("clock", 0, (0, 0, 30000), ()))


class Making(Case):
    def test_new_engine(self):
        engine = Engine(DUO, ("b",))
        self.same((engine.project(), engine.entries(), engine.undone(), engine.ears()), (DUO, (), (), ("b",)))
        self.same((engine.given(), engine.amounts(), engine.heard(), engine.sealed()), (MUTE, (0, 0, 0, 0), 0, False))
        self.same((engine.names(), engine.fronts(), engine.busy()), (("a", "b"), (), ()))
        self.same((engine.front("a"), engine.front("zz"), engine.wanted("a"), engine.room("zz")), (0, 0, 0, 0))
        self.same(Engine(project=DUO, ears=("b", "a"), entries=ECHO).entries(), ECHO)
        self.same(Engine(DUO, ("b", "a"), ECHO).ears(), ("b", "a"))

    def test_names(self):
        entries = ((9, 11, ("put", "c", "level", (5,), ())), (LAST - 1, LAST, ("put", "d", "level", (5,), ())),
                   (4, 4, ("put", "e", "level", (5,), ())), (3, LAST, ("off", "b")), (3, None, ("off", "z")))
        self.same(Engine(DUO, ("x", "b"), entries).names(), ("a", "b", "c", "d", "x"))
        # What stands from LAST on alone is no name of an engine.
        entries = ((0, LAST, ("off", "b")),)
        self.same(Engine(DUO, ("a",), entries).names(), ("a",))

    def test_ears_that_never_stand(self):
        engine = Engine(((), ()), ("z", "b"))
        self.same(engine.names(), ("b", "z"))
        self.same((engine.ready("z", 2048), work(engine, "z", 3), work(engine, "b", 2)), (None, True, True))
        self.same((engine.hear(2), engine.worths("z", 0, 3)), (((0, 0), (0, 0)), (0, 0, 0)))
        self.raises(NotYet, ("b",), engine.hear, 1)

    def test_up_to_sixty_four_entries(self):
        entries = ((5, None, ("off", "z")),) * 64
        self.same(Engine(DUO, ("b",), entries).entries(), entries)
        self.refuses("entries", Engine, DUO, ("b",), entries + entries[:1])

    def test_wrong_inputs(self):
        for thing in ANYTHING:
            if thing != ((), ()):
                self.refuses("project", Engine, thing, None, None)
            self.refuses("ears", Engine, DUO, thing, None)
            if thing != ():
                self.refuses("entries", Engine, DUO, ("b",), thing)
        marked = ((("a", ("level", 1, (5,), ())),), ())
        unlet = project(a=mix(("x", 0)))
        for one in (marked, unlet, list(DUO), (list(DUO[0]), ()), project(a=("level", False, (5,), ())), project(a=("level", 0, (True,), ()))):
            self.refuses("project", Engine, one, ("a",))
        for ears in ((), ("a", "a"), ("a", "b", "c", "d", "e"), ["a"], ("A",), ("a", 1), "a"):
            self.refuses("ears", Engine, DUO, ears)
        for entries in ([], (ECHO[0][:2],), ((True, None, ("off", "a")),), ((5, 4, ("off", "a")),), ((0, LAST + 1, ("off", "a")),),
                        ((LAST, None, ("off", "a")),), ((0, None, ["off", "a"]),), ((0, None, ("wire", "b", 0, "a", 2048)),),
                        ((0, None, ("wire", "b", False, "a", 0)),), (list(ECHO[0]),)):
            self.refuses("entries", Engine, DUO, ("b",), entries)


class Giving(Case):
    def test_pieces(self):
        engine = Engine(FED, ("g",))
        for piece in ((), (5,), (), (-1048575, 1048575)):
            self.same(engine.give(1, piece), None)
        self.same(engine.give(channel=3, worths=(7,)), None)
        self.same((engine.given(), engine.amounts()), (((), (5, -1048575, 1048575), (), (7,)), (0, 3, 0, 1)))
        self.same((engine.shut(channel=3), engine.amounts(), engine.given()[3]), (None, (0, 3, 0, None), (7,)))

    def test_a_channel_of_last_worths(self):
        engine = Engine(FED, ("g",))
        engine.give(0, (1,) * (LAST - 1))
        self.raises(TooFar, (LAST,), engine.give, 0, (2, 3))
        self.same(engine.amounts(), (LAST - 1, 0, 0, 0))
        engine.give(0, (2,))
        self.raises(TooFar, (LAST,), engine.give, 0, (3,))
        self.same((engine.give(0, ()), engine.amounts()[0], engine.given()[0][-2:]), (None, LAST, (1, 2)))
        engine.shut(0)
        self.raises(Shut, (0,), engine.give, 0, (3,))
        self.raises(TooFar, (LAST,), engine.give, 1, (0,) * (LAST + 1))

    def test_a_shut_channel(self):
        engine = Engine(FED, ("g",))
        engine.give(1, (5, 6))
        engine.shut(1)
        self.raises(Shut, (1,), engine.give, 1, ())
        self.raises(Shut, (1,), engine.give, 1, (1,))
        self.raises(Shut, (1,), engine.shut, 1)
        work(engine, "f", 4)
        self.same(engine.worths("f", 0, 4), (5, 6, 0, 0))
        self.same(engine.amounts(), (0, None, 0, 0))

    def test_wrong_inputs(self):
        engine = Engine(FED, ("g",))
        engine.shut(0)
        for thing in not_numbers(0, 1, 2, 3):
            self.refuses("channel", engine.give, thing, None)
            self.refuses("channel", engine.shut, thing)
        self.refuses("channel", engine.shut, 4)
        for worths in ([1], (True,), (1048576,), None, 5, ((1,),), "1"):
            self.refuses("worths", engine.give, 0, worths)
        self.same(engine.given(), MUTE)


class Jobs(Case):
    def test_begin_end_drop(self):
        engine = Engine(DUO, ("b",))
        self.same((engine.begin(15, "a", 2), engine.busy(), engine.fronts()), (0, ((15, "a", 0, 2, False),), ()))
        self.same((engine.drop(15), engine.busy(), engine.fronts()), (None, (), ()))
        self.same((engine.begin(hand=3, name="a", many=4), engine.end(hand=3), engine.fronts()), (0, True, (("a", 4),)))
        self.same((engine.begin(3, "a", 1), engine.begin(0, "b", 1), engine.busy()), (4, 0, ((0, "b", 0, 1, False), (3, "a", 4, 1, False))))
        self.same((engine.end(0), engine.worths("b", 0, 1), engine.worths("a", 0, 4), engine.front("a")), (True, (0,), (0, 1, 2, 0), 4))

    def test_errors_in_their_sequence(self):
        engine = Engine(DUO, ("b",))
        engine.begin(1, "a", 1)
        engine.change(0, ("knobs", "a", (1, 0, 3)))
        engine.begin(2, "a", 1)
        # Each call has all the faults that stand behind the one that is told.
        self.refuses("hand", engine.begin, 16, "A", 0)
        self.refuses("name", engine.begin, 1, "A", 0)
        self.refuses("many", engine.begin, 1, "zz", 0)
        self.raises(HandBusy, (1,), engine.begin, 1, "zz", 3)
        self.raises(HandBusy, (2,), engine.begin, 2, "a", 2)
        self.raises(NoName, ("zz",), engine.begin, 0, "zz", 2048)
        engine = Engine(COUNTER, ("a",))
        for _ in range(9):
            work(engine, "a", 2048)
        engine.begin(0, "a", 1568)
        self.raises(NameTaken, ("a",), engine.begin, 1, "a", 1569)
        self.raises(TooFar, (LAST + 1,), engine.ready, "a", 1569)
        self.same(engine.end(0), True)
        self.raises(TooFar, (LAST + 1,), engine.begin, 1, "a", 1)
        self.raises(TooFar, (LAST + 2048,), engine.ready, "a", 2048)
        self.same(engine.worths("a", LAST - 2, LAST), (LAST - 2, LAST - 1))

    def test_too_far_ahead_of_not_ready(self):
        engine = Engine(project(a=LEVEL, b=mix(("a", 0))), ("b",), ((9, None, ("anew", "b")),))
        for name in ("a", "b"):
            for _ in range(9):
                work(engine, name, 2048)
        self.raises(TooFar, (LAST + 480,), engine.begin, 0, "b", 2048)
        self.raises(NotReady, (9 * 2048, 0), engine.begin, 0, "b", 1568)

    def test_not_ready(self):
        one = project(a=LEVEL, b=LEVEL, c=mix(None, ("b", 2), ("a", 1), ("c", 3), ("a", 0)))
        engine = Engine(one, ("c",))
        # The first place that is not ready, and there the first inlet.
        self.raises(NotReady, (0, 4), engine.begin, 0, "c", 9)
        work(engine, "a", 3)
        self.raises(NotReady, (2, 1), engine.begin, 0, "c", 9)
        self.same((engine.ready("c", 2), engine.ready("c", 3)), (None, (2, 1)))
        work(engine, "b", 1)
        self.same((engine.ready("c", 3), engine.ready("c", 4)), (None, (3, 1)))
        work(engine, "b", 5)
        self.same(engine.ready(name="c", many=4), (3, 3))
        self.same((engine.begin(0, "c", 3), engine.end(0), engine.ready("c", 1)), (0, True, (3, 4)))
        work(engine, "a", 3)
        # Three samples later the box reads itself, whose front is as far.
        self.same((engine.ready("c", 3), engine.ready("c", 4)), (None, (6, 3)))

    def test_places_of_a_slip_under_way_are_not_worked_out(self):
        engine = Engine(DUO, ("b",))
        engine.begin(0, "a", 2)
        self.raises(NotReady, (0, 0), engine.begin, 1, "b", 1)
        engine.end(0)
        self.same((engine.begin(1, "b", 1), engine.ready("b", 2)), (0, (1, 1)))

    def test_feeds(self):
        engine = Engine(FED, ("g",), ((4, None, ("knobs", "f", (2,))), (6, None, ("knobs", "f", (3,)))))
        self.raises(NotReady, (0, -1), engine.begin, 0, "f", 1)
        engine.give(1, (1, 2, 3))
        self.same((engine.ready("f", 3), engine.ready("f", 4)), (None, (3, -1)))
        engine.give(1, (4,))
        self.same(engine.ready("f", 9), (4, -1))
        engine.shut(2)
        engine.give(3, (9,) * 7)
        self.same((engine.ready("f", 7), engine.ready("f", 8)), (None, (7, -1)))
        work(engine, "f", 7)
        self.same(engine.worths("f", 0, 7), (1, 2, 3, 4, 0, 0, 9))
        self.same((engine.ready("g", 9), engine.ready("g", 10)), (None, (9, 0)))

    def test_places_where_a_name_does_not_stand(self):
        entries = ((2, 4, ("off", "g")), (3, 6, ("all", (("off", "g"), ("off", "f")))))
        engine = Engine(FED, ("g",), entries)
        engine.give(1, (1, 2, 3, 4))
        # f stands up to 3, where the second entry sleeps, and from 6 on; g at 0 and 1 reads nothing, at 6 and 7 neither.
        self.same((engine.ready("f", 6), engine.ready("f", 7)), (None, (6, -1)))
        self.same((engine.ready("g", 8), engine.ready("g", 9)), (None, (8, 0)))
        self.same((work(engine, "g", 8), work(engine, "f", 6)), (True, True))
        self.same((engine.worths("g", 0, 8), engine.worths("f", 0, 6)), ((0,) * 8, (1, 2, 3, 4, 0, 0)))

    def test_a_source_that_does_not_stand_at_its_front(self):
        entries = ((2, 4, ("all", (("loose", "b", 0), ("off", "a")))),)
        engine = Engine(project(a=("clock", 0, (7, 0, 99), ()), b=mix(("a", 2))), ("b",), entries)
        work(engine, "a", 2)
        # At 4 and 5 b reads a at 2 and 3, where a is not worked out and does not stand.
        self.same((engine.ready("b", 6), engine.ready("b", 7)), (None, (6, 0)))
        work(engine, "b", 6)
        self.same(engine.worths("b", 0, 6), (0,) * 6)

    def test_states_behind_samples_at_which_a_name_does_not_stand(self):
        entries = ((2, 5, ("off", "a")),)
        engine = Engine(project(a=("clock", 0, (0, 0, 99), ())), ("a",), entries)
        work(engine, "a", 9)
        self.same(engine.change(8, ("knobs", "a", (0, 0, 50))), (("a", 8),))
        work(engine, "a", 2)
        self.same(engine.worths("a", 0, 10), (0, 1, 0, 0, 0, 0, 1, 2, 3, 4))

    def test_a_name_by_its_front_alone(self):
        engine = Engine(DUO, ("b",), ((9, None, ("put", "c", "level", (5,), ())),))
        work(engine, "c", 3)
        self.same(engine.undo(0), ())
        self.same((engine.names(), engine.ready("c", 2), work(engine, "c", 2)), (("a", "b", "c"), None, True))
        # By a slip that is not struck alone, too; without both it is none.
        other = Engine(DUO, ("b",), ((9, None, ("put", "c", "level", (5,), ())),))
        other.begin(4, "c", 3)
        other.undo(0)
        self.same((other.names(), other.ready("c", 2), other.drop(4), other.names()), (("a", "b", "c"), None, None, ("a", "b")))
        self.raises(NoName, ("c",), other.ready, "c", 2)

    def test_hands_and_struck_slips(self):
        engine = Engine(DUO, ("b",))
        self.raises(NoSlip, (0,), engine.end, 0)
        self.raises(NoSlip, (15,), engine.drop, 15)
        for hand in (0, 1, 2):
            engine.begin(hand, "a", hand + 1)
            engine.change(0, ("knobs", "a", (hand, 0, 9)))
        self.same(engine.busy(), ((0, "a", 0, 1, True), (1, "a", 0, 2, True), (2, "a", 0, 3, True)))
        # A struck slip keeps its hand, not its name.
        self.raises(HandBusy, (0,), engine.begin, 0, "b", 1)
        self.same((engine.begin(3, "a", 1), engine.ready("a", 5)), (0, None))
        self.same((engine.end(1), engine.drop(0), engine.fronts(), engine.end(3), engine.fronts()), (False, None, (), True, (("a", 1),)))
        self.same((engine.end(2), engine.busy(), engine.fronts(), engine.worths("a", 0, 1)), (False, (), (("a", 1),), (2,)))

    def test_ready_of_a_name_that_is_taken(self):
        engine = Engine(DUO, ("b",))
        engine.begin(0, "a", 5)
        self.same((engine.ready("a", 7), engine.ready("b", 1)), (None, (0, 0)))
        self.raises(NoName, ("zz",), engine.ready, "zz", 1)

    def test_slips_go_on_while_their_sources_fall(self):
        # What b took in stays, though a falls below it: b's places do not hang on the new start.
        one = project(a=("clock", 0, (0, 0, 99), ()), b=mix(("a", 3)))
        engine = Engine(one, ("b",))
        work(engine, "a", 4)
        engine.begin(0, "b", 4)
        self.same(engine.change(1, ("anew", "a")), (("a", 1),))
        self.same((engine.busy(), engine.end(0), engine.worths("b", 0, 4)), (((0, "b", 0, 4, False),), True, (0, 0, 0, 0)))
        self.same((engine.ready("b", 1), work(engine, "a", 4), work(engine, "b", 2)), ((4, 0), True, True))
        self.same((engine.worths("a", 0, 5), engine.worths("b", 4, 6)), ((0, 0, 1, 2, 3), (0, 1)))

    def test_each_size(self):
        one = project(a=("noise", 0, (5, 999), ()), b=mix(("a", 1), ("b", 4)))
        told = run_of(one, (), MUTE, 64)[1]
        for size in (1, 2, 3, 4):
            engine = Engine(one, ("b",))
            work(engine, "a", 64)
            for _ in range(64 // size):
                work(engine, "b", size)
            self.same(engine.worths("b", 0, 64 // size * size), told[1][:64 // size * size])

    def test_wrong_inputs(self):
        engine = Engine(DUO, ("b",))
        for thing in not_numbers(*range(16)):
            self.refuses("hand", engine.begin, thing, None, None)
            self.refuses("hand", engine.end, thing)
            self.refuses("hand", engine.drop, thing)
        self.refuses("hand", engine.end, 16)
        for thing in ANYTHING:
            if thing not in ("a", "down"):
                self.refuses("name", engine.begin, 0, thing, None)
                self.refuses("name", engine.ready, thing, None)
                self.refuses("name", engine.front, thing)
                self.refuses("name", engine.wanted, thing)
                self.refuses("name", engine.room, thing)
                self.refuses("name", engine.worths, thing, None, None)
        for thing in not_numbers(1, 7) + [2049]:
            self.refuses("many", engine.begin, 0, "zz", thing)
            self.refuses("many", engine.ready, "zz", thing)
            self.refuses("many", engine.hear, thing)
        for thing in not_numbers(0, 1, 7, 10 ** 60 - 1):
            self.refuses("low", engine.worths, "zz", thing, None)
            self.refuses("high", engine.worths, "zz", 0, thing)
        self.refuses("high", engine.worths, "zz", 3, 2)
        self.same((engine.fronts(), engine.busy()), ((), ()))


class Hearing(Case):
    def test_hear(self):
        engine = Engine(DUO, ("b", "a"))
        work(engine, "a", 4)
        for _ in range(4):
            work(engine, "b", 1)
        self.same((engine.hear(1), engine.heard(), engine.hear(many=3), engine.heard()), (((0, 0),), 1, ((1, 1), (3, 2), (3, 0)), 4))
        # The first ear that is not so far, though the other one lacks more.
        self.raises(NotYet, ("b",), engine.hear, 1)
        work(engine, "a", 2)
        work(engine, "b", 1)
        self.raises(NotYet, ("b",), engine.hear, 2)
        self.same((engine.hear(1), engine.heard()), (((4, 1),), 5))

    def test_as_many_as_can_be(self):
        engine = Engine(COUNTER, ("a",))
        for _ in range(9):
            work(engine, "a", 2048)
        work(engine, "a", 1568)
        told = [engine.hear(2048) for _ in range(9)]
        self.same(told[8][2047], (9 * 2048 - 1,))
        self.raises(NotYet, ("a",), engine.hear, 1569)
        self.same((len(engine.hear(1568)), engine.heard()), (1568, LAST))
        self.raises(NotYet, ("a",), engine.hear, 1)


class Sealing(Case):
    def test_a_sealed_engine_refuses_changes(self):
        engine = Engine(DUO, ("b",))
        self.same((engine.change(3, ECHO[0][2]), engine.change(2, ECHO[0][2]), engine.undo(5)), ((), (), ()))
        self.same((engine.seal(), engine.sealed()), (None, True))
        before = engine.save()
        for function, args in ((engine.change, (0, ECHO[0][2])), (engine.undo, (0,)), (engine.redo, (0,)), (engine.seal, ())):
            self.raises(Sealed, (), function, *args)
        self.refuses("sample", engine.change, LAST, None)
        self.refuses("deed", engine.change, 0, None)
        self.refuses("sample", engine.undo, True)
        self.refuses("sample", engine.redo, None)
        self.same(engine.save(), before)

    def test_sealed_ahead_of_what_else_is_refused(self):
        engine = Engine(DUO, ("b",), ((0, 1, ("off", "z")),) * 64)
        engine.seal()
        for function, args in ((engine.change, (0, ("off", "z"))), (engine.undo, (0,)), (engine.redo, (0,))):
            self.raises(Sealed, (), function, *args)

    def test_wanted_of_ears_and_of_names_that_are_read(self):
        one = project(a=("clock", 0, (0, 0, 99), ()), b=mix(("a", 5)), c=mix(("a", 0), ("c", 2)))
        engine = Engine(one, ("b", "zz"))
        for name, many in (("a", 9), ("b", 7), ("c", 2), ("c", 2), ("zz", 4)):
            work(engine, name, many)
        engine.hear(3)
        self.same([engine.wanted(name) for name in "abc"], [0, 0, 0])
        self.same([engine.room(name) for name in "abc"], [9, 7, 4])
        engine.seal()
        # b is heard up to 3, reads a from 2 on; c reads a from 4 on, itself from 2 on.
        self.same([engine.wanted(name) for name in ("a", "b", "c", "zz", "e")], [2, 3, 2, 3, 0])
        self.same([engine.room(name) for name in ("a", "b", "c", "zz", "e")], [7, 4, 2, 1, 0])
        self.same((engine.worths("a", 2, 9), engine.worths("b", 3, 7), engine.worths("c", 2, 4)), ((2, 3, 4, 5, 6, 7, 8), (0, 0, 0, 1), (2, 4)))
        work(engine, "b", 2)
        self.same((engine.wanted("a"), engine.worths("b", 7, 9)), (4, (2, 3)))
        work(engine, "c", 2)
        self.same((engine.wanted("a"), engine.wanted("c"), engine.worths("c", 4, 6)), (4, 4, (6, 9)))
        work(engine, "b", 2)
        self.same((engine.wanted("a"), engine.hear(1), engine.wanted("b")), (6, ((0, 0),), 4))

    def test_wanted_behind_changes_to_come(self):
        one = project(a=("clock", 0, (0, 0, 99), ()), b=mix(None), c=mix(None))
        entries = ((10, 12, ("wire", "b", 0, "a", 7)), (5, 8, ("off", "a")), (20, None, ("wire", "c", 0, "a", 14)))
        engine = Engine(one, ("c",), entries)
        for name, many in (("a", 9), ("b", 9), ("c", 9)):
            work(engine, name, many)
        engine.hear(9)
        engine.seal()
        # b reads a at 10 and 11: 3 and 4; c from 20 on: 6 and 7, where a does not stand, then 8.
        self.same((engine.wanted("a"), engine.wanted("b"), engine.wanted("c")), (3, 9, 9))
        work(engine, "b", 2)
        self.same((engine.wanted("a"), engine.worths("a", 4, 5)), (4, (4,)))
        work(engine, "b", 1)
        self.same(engine.wanted("a"), 8)
        for name, many in (("a", 2), ("c", 13)):
            work(engine, name, many)
        self.same((engine.worths("c", 9, 22), engine.wanted("a"), engine.worths("a", 8, 11)), ((0,) * 13, 8, (0, 1, 2)))

    def test_great_delays_and_the_end(self):
        one = project(a=("clock", 0, (0, 0, 30000), ()), b=mix(("a", 2047)))
        engine = Engine(one, ("b",))
        for name in ("a", "b") * 9:
            work(engine, name, 2048)
        for _ in range(9):
            engine.hear(2048)
        engine.seal()
        front = 9 * 2048
        self.same((engine.wanted("a"), engine.room("a"), engine.wanted("b")), (front - 2047, 2047, front))
        self.raises(Gone, ("a",), engine.worths, "a", front - 2048, front)
        work(engine, "b", 1568)
        # Nothing is read at LAST and behind it.
        self.same((engine.front("b"), engine.wanted("a"), engine.room("a")), (LAST, front, 0))
        self.same(engine.worths("b", LAST - 1, LAST), (LAST - 1 - 2047,))
        work(engine, "a", 1568)
        self.same((engine.room("a"), engine.worths("a", LAST, LAST)), (0, ()))

    def test_gone_and_not_yet(self):
        engine = Engine(COUNTER, ("b",))
        work(engine, "a", 5)
        self.same((engine.worths("a", 0, 0), engine.worths("a", 5, 5), engine.worths(name="a", low=1, high=3)), ((), (), (1, 2)))
        self.raises(NotYet, ("a",), engine.worths, "a", 6, 6)
        self.raises(NotYet, ("zz",), engine.worths, "zz", 0, 1)
        self.same(engine.worths("zz", 0, 0), ())
        engine.seal()
        self.same((engine.wanted("a"), engine.worths("a", 5, 5)), (5, ()))
        self.raises(Gone, ("a",), engine.worths, "a", 4, 5)
        self.raises(Gone, ("a",), engine.worths, "a", 4, 4)
        self.raises(NotYet, ("a",), engine.worths, "a", 4, 6)
        self.same(engine.worths("zz", 0, 0), ())

    def test_as_much_as_the_greatest_delay(self):
        """[11] (G8): behind even rounds, all heard, a sealed engine keeps what the greatest delay of a wire asks for."""
        one = project(a=("noise", 0, (1, 99), ()), b=mix(("a", 0), ("a", 4), ("c", 2)), c=mix(("b", 3), ("c", 9)))
        for front in range(12):
            engine = Engine(one, ("a", "b", "c"))
            for _ in range(front):
                for name in ("a", "b", "c"):
                    work(engine, name, 1)
            if front:
                engine.hear(front)
            engine.seal()
            self.same([engine.room(name) for name in ("a", "b", "c", "zz")], [min(4, front), min(3, front), min(9, front), 0])

    def test_a_sealed_engine_goes_on_alike(self):
        one = project(a=("noise", 0, (7, 999), ()), b=mix(("a", 1), ("b", 2), ("f", 0)), f=("feed", 0, (0,), ()))
        entries = ((6, 9, ("wire", "b", 0, "a", 3)), (12, None, ("anew", "a")))
        told = []
        for turn in (0, 1, 5, 11, 13):
            engine = Engine(one, ("b", "a"), entries)
            heard = ()
            for sample in range(16):
                if sample == turn:
                    engine.seal()
                engine.give(0, (sample * 100,))
                for name in ("f", "a", "b"):
                    work(engine, name, 1)
                heard += engine.hear(1)
            told.append(heard)
        self.same(told, [told[0]] * 5)
        run = dict(zip(("a", "b", "f"), run_of(one, entries, engine.given(), 16)[1]))
        self.same(told[0], tuple(zip(run["b"], run["a"])))


class Asking(Case):
    def test_the_same_answer_twice(self):
        engine = Engine(DUO, ("b",), ECHO)
        work(engine, "a", 3)
        engine.begin(2, "b", 1)
        for _ in range(2):
            self.same((engine.fronts(), engine.busy(), engine.front("a")), ((("a", 3),), ((2, "b", 0, 1, False),), 3))
            self.same((engine.worths("a", 0, 3), engine.ready("a", 1), engine.names()), ((0, 1, 2), None, ("a", "b")))
        for word in ("project", "entries", "undone", "ears", "given", "amounts", "heard", "sealed", "names", "fronts", "busy", "save"):
            self.same(getattr(engine, word)(), getattr(engine, word)())

    def test_engines_do_not_share(self):
        one, other = Engine(DUO, ("b",)), Engine(DUO, ("b",))
        work(one, "a", 3)
        one.give(2, (5,))
        one.change(0, ECHO[0][2])
        one.seal()
        self.same(other.save(), Engine(DUO, ("b",)).save())
