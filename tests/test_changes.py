"""Changes, undoing and redoing of an engine [10], [77], and what follows [11], [82]."""

from samesamples.engine import Engine
from samesamples.errors import Heard, NotLet, NothingToRedo, NothingToUndo, Sealed, TooMany
from samesamples.freeruns import free_runs
from samesamples.histories import sleeping
from engines import LAST, not_numbers, work
from helpers import ANYTHING, Case, drawing
from histories import drawn_deed
from projects import DUO, ECHO, LEVEL, let_project, mix, project
from samesamples.scorenotes import has_notes

WIRE = ECHO[0][2]
ASLEEP = ("off", "z")


def clock(first=0):
    return "clock", 0, (first, 0, 99), ()


def duo(front=5, heard=0):
    """An engine over DUO whose ear b was worked so far, and heard."""
    engine = Engine(DUO, ("b",))
    work(engine, "a", front)
    for _ in range(front):
        work(engine, "b", 1)
    if heard:
        engine.hear(heard)
    return engine


class Refusals(Case):
    def changes_nothing(self, error, fields, engine, word, *args):
        before = engine.save()
        self.raises(error, fields, getattr(engine, word), *args)
        self.same(engine.save(), before)


class Changing(Refusals):
    def test_at_below_and_above_fronts(self):
        for sample, fell in ((0, (("b", 0),)), (2, (("b", 2),)), (4, (("b", 4),)), (5, ()), (6, ()), (LAST - 1, ())):
            engine = duo()
            self.same(engine.change(sample=sample, deed=WIRE), fell)
            self.same(engine.entries(), ((sample, None, WIRE),))
            self.same((engine.front("a"), engine.front("b")), (5, dict(fell).get("b", 5)))

    def test_what_is_worked_anew(self):
        engine = duo()
        engine.change(2, WIRE)
        for _ in range(3):
            work(engine, "b", 1)
        self.same(engine.worths("b", 0, 5), (0, 1, 2, 4, 4))

    def test_fronts_fall_to_the_first_touched_place(self):
        one = project(a=clock(), b=mix(("a", 3)), c=mix(("b", 0), ("c", 1)), d=clock())
        engine = Engine(one, ("c", "d"))
        for name in "abd":
            work(engine, name, 9)
        for _ in range(4):
            work(engine, "c", 1)
        # a is touched from 4 on, b from 7, c from 7, which is above its front; d is not.
        self.same(engine.change(4, ("knobs", "a", (1, 0, 5))), (("a", 4), ("b", 7)))
        self.same(engine.fronts(), (("a", 4), ("b", 7), ("c", 4), ("d", 9)))
        self.same(engine.change(2, ("knobs", "b", ((8192,), 0))), (("b", 2), ("c", 2)))
        self.same(engine.change(0, ("anew", "d")), ())

    def test_a_change_that_touches_nothing(self):
        engine = duo(5, 5)
        engine.begin(0, "a", 2)
        for deed in (("anew", "b"), ("all", ()), ("knobs", "a", (0, 0, 3)), ("wire", "b", 1, "b", 1), ("put", "c", "level", (5,), ())):
            self.same(engine.change(0 if deed[0] == "anew" else 3, deed), ())
        self.same((engine.fronts(), engine.busy()), ((("a", 5), ("b", 5)), ((0, "a", 5, 2, False),)))

    def test_heard_places(self):
        for heard in range(6):
            engine = duo(5, heard)
            for sample in range(6):
                if heard > sample:
                    self.changes_nothing(Heard, ("b", sample), engine, "change", sample, WIRE)
            self.same(engine.change(heard, WIRE), (("b", heard),) if heard < 5 else ())

    def test_heard_with_several_ears(self):
        one = project(a=clock(), b=mix(("a", 2)), c=mix(("a", 2)), d=LEVEL)
        engine = Engine(one, ("d", "c", "b"))
        for name in "abcd":
            work(engine, name, 9)
        engine.hear(6)
        # Both are touched at 4 first: c is heard ahead of b.
        self.changes_nothing(Heard, ("c", 4), engine, "change", 2, ("anew", "a"))
        self.changes_nothing(Heard, ("b", 3), engine, "change", 3, ("all", (("knobs", "b", ((1,), 0)), ("knobs", "d", (5,)))))
        self.changes_nothing(Heard, ("d", 5), engine, "change", 5, ("all", (("knobs", "b", ((1,), 0)), ("knobs", "d", (6,)))))
        # An ear that is touched early is told, whichever stands first.
        self.changes_nothing(Heard, ("b", 0), engine, "change", 0, ("all", (("knobs", "b", ((1,), 7)), ("anew", "a"), ("wire", "c", 0, "a", 1))))
        self.same(engine.change(4, ("anew", "a")), (("a", 4), ("b", 6), ("c", 6)))

    def test_what_is_no_ear_may_be_touched(self):
        one = project(a=clock(), b=mix(("a", 9)))
        engine = Engine(one, ("b",))
        for name in "ab":
            work(engine, name, 9)
        engine.hear(9)
        self.same(engine.change(0, ("knobs", "a", (7, 0, 50))), (("a", 0),))
        self.same((engine.fronts(), engine.heard()), ((("b", 9),), 9))

    def test_slips(self):
        one = project(a=clock(), b=mix(("a", 2)), c=clock())
        for sample, struck in ((0, True), (1, True), (3, True), (4, True), (5, False), (9, False)):
            engine = Engine(one, ("b",))
            work(engine, "a", 2)
            work(engine, "c", 20)
            engine.begin(7, "a", 3)
            engine.change(sample, ("anew", "a") if sample else ("knobs", "a", (3, 0, 9)))
            # The slip is that of the samples 2 to 4: a touched place behind its end does not strike it.
            self.same(engine.busy(), ((7, "a", 2, 3, struck),))
            self.same((engine.end(7), engine.front("a")), (not struck, 5 if not struck else min(sample, 2)))

    def test_a_struck_slip_stays_struck(self):
        engine = Engine(DUO, ("b",))
        engine.begin(0, "a", 2)
        engine.change(1, ("anew", "a"))
        self.same((engine.undo(1), engine.busy(), engine.end(0)), ((), ((0, "a", 0, 2, True),), False))

    def test_refused_deeds(self):
        engine = duo(5, 3)
        for fields, sample, deed in (
            (("box", "z"), 0, ASLEEP), (("source", "b"), 2, ("off", "a")), (("ring", "b"), 2, ("wire", "b", 1, "b", 0)),
            (("inlet", "b"), 0, ("loose", "b", 2)), (("knobs", "b"), 0, ("knobs", "b", (5,))), (("score", "s"), 0, ("noscore", "s")),
            (("box", "a"), 0, ("all", (("off", "a"), ("off", "a")))),
        ):
            self.changes_nothing(NotLet, fields, engine, "change", sample, deed)
        # What stands at the sample decides, not what stands elsewhere.
        engine.change(4, ("put", "c", "level", (5,), ()))
        self.changes_nothing(NotLet, ("box", "c"), engine, "change", 3, ("off", "c"))
        engine.change(4, ("off", "c"))

    def test_the_number_of_the_entry(self):
        engine = Engine(DUO, ("b",), ((3, 5, ASLEEP), (1, None, ("anew", "a"))))
        work(engine, "a", 9)
        self.same(engine.change(6, ("anew", "a")), (("a", 6),))
        # The new entry's number is 2, the elder's mark was 2: at 6 the box is another one.
        work(engine, "a", 3)
        self.same(engine.worths("a", 0, 9), (0, 0, 1, 2, 0, 1, 0, 1, 2))

    def test_entries_sleep_and_wake(self):
        one = project(a=clock(), c=clock())
        engine = Engine(one, ("a",))
        for name in "ac":
            work(engine, name, 9)
        self.same(engine.change(6, ("knobs", "c", (0, 0, 3))), (("c", 6),))
        self.same(engine.change(4, ("off", "c")), (("c", 4),))
        self.same(sleeping(one, engine.entries(), 6), (0,))
        work(engine, "c", 5)
        self.same(engine.worths("c", 0, 9), (0, 1, 2, 3, 0, 0, 0, 0, 0))
        # Undoing lets the elder entry wake, but at 7 alone as the box stands anew.
        self.same(engine.undo(7), (("c", 7),))
        work(engine, "c", 2)
        self.same(engine.worths("c", 5, 9), (0, 0, 0, 1))
        self.same(sleeping(one, engine.entries(), 7), ())

    def test_wrong_inputs(self):
        engine = duo()
        for thing in not_numbers(0, 1, 7) + [LAST]:
            self.refuses("sample", engine.change, thing, None)
            self.refuses("sample", engine.undo, thing)
            self.refuses("sample", engine.redo, thing)
        for thing in ANYTHING + (("off", "A"), ["off", "a"], ("wire", "b", True, "a", 0), ("wire", "b", 0, "a", 2048), ("all", [ASLEEP]),
                                 ("all", (("all", ()),)), ("put", "c", "level", (5,), [])):
            self.refuses("deed", engine.change, 0, thing)
        self.same(engine.save(), duo().save())


class Undoing(Refusals):
    def test_the_greatest_number_without_an_until(self):
        entries = ((9, None, ("anew", "a")), (2, None, WIRE), (1, 4, ("anew", "b")))
        engine = Engine(DUO, ("b",), entries)
        self.same((engine.undo(5), engine.undone()), ((), (WIRE,)))
        self.same(engine.entries(), (entries[0], (2, 5, WIRE), entries[2]))
        # A sample below its begin: it never stands.
        self.same((engine.undo(sample=3), engine.undone()), ((), (WIRE, ("anew", "a"))))
        self.same(engine.entries()[0], (9, 9, ("anew", "a")))
        self.changes_nothing(NothingToUndo, (), engine, "undo", 0)

    def test_at_a_sample_below_and_above_its_begin(self):
        for sample, until, fell in ((0, 2, 2), (2, 2, 2), (3, 3, 3), (5, 5, 5)):
            engine = Engine(DUO, ("b",), ECHO)
            work(engine, "a", 5)
            for _ in range(5):
                work(engine, "b", 1)
            self.same((engine.undo(sample), engine.entries()), ((("b", fell),) if fell < 5 else (), ((2, until, WIRE),)))

    def test_redoing(self):
        engine = Engine(DUO, ("b",))
        deeds = ("anew", "a"), WIRE, ("knobs", "a", (0, 0, 7))
        for deed in deeds:
            engine.change(1, deed)
        self.same(engine.change(4, ("anew", "b")), ())
        for _ in range(3):
            engine.undo(2)
        self.same((engine.undone(), engine.entries()[0]), ((("anew", "b"),) + deeds[:0:-1], (1, None, deeds[0])))
        self.same((engine.redo(sample=7), engine.undone()), ((), (("anew", "b"), deeds[2])))
        self.same((engine.redo(8), engine.redo(LAST - 1), engine.undone()), ((), (), ()))
        self.same(engine.entries()[4:], ((7, None, deeds[1]), (8, None, deeds[2]), (LAST - 1, None, ("anew", "b"))))
        self.changes_nothing(NothingToRedo, (), engine, "redo", 0)

    def test_a_change_empties_the_pile(self):
        engine = Engine(DUO, ("b",))
        engine.change(1, WIRE)
        engine.change(1, ("anew", "a"))
        engine.undo(1)
        engine.undo(1)
        self.changes_nothing(NotLet, ("box", "z"), engine, "change", 0, ASLEEP)
        self.same(engine.undone(), (("anew", "a"), WIRE))
        engine.change(9, ("anew", "b"))
        self.same(engine.undone(), ())
        self.changes_nothing(NothingToRedo, (), engine, "redo", 0)

    def test_redo_of_what_is_refused_now(self):
        engine = Engine(DUO, ("b",))
        engine.change(5, ("put", "c", "level", (5,), ()))
        engine.change(5, ("knobs", "c", (6,)))
        engine.undo(5)
        self.changes_nothing(NotLet, ("box", "c"), engine, "redo", 4)
        self.same((engine.redo(6), engine.undone()), ((), ()))

    def test_sixty_four_entries(self):
        engine = Engine(DUO, ("b",), ((0, 1, ASLEEP),) * 63)
        engine.change(3, WIRE)
        self.changes_nothing(TooMany, (64,), engine, "change", 3, ASLEEP)
        engine.undo(3)
        # Ahead of what the deed itself would be refused for, and behind the empty pile.
        self.changes_nothing(TooMany, (64,), engine, "redo", 3)
        self.changes_nothing(TooMany, (64,), engine, "change", 3, ASLEEP)
        self.changes_nothing(NothingToUndo, (), engine, "undo", 3)
        full = Engine(DUO, ("b",), ((0, 1, ASLEEP),) * 64)
        self.changes_nothing(NothingToRedo, (), full, "redo", 3)

    def test_undo_and_redo_of_what_was_heard(self):
        engine = Engine(DUO, ("b",), ECHO)
        work(engine, "a", 5)
        for _ in range(5):
            work(engine, "b", 1)
        engine.hear(4)
        self.changes_nothing(Heard, ("b", 2), engine, "undo", 0)
        self.changes_nothing(Heard, ("b", 3), engine, "undo", 3)
        self.same((engine.undo(4), engine.undone()), ((("b", 4),), (WIRE,)))
        self.changes_nothing(Heard, ("b", 0), engine, "redo", 0)
        self.same(engine.redo(4), ())

    def test_errors_in_their_sequence(self):
        engine = Engine(DUO, ("b",), ((0, None, ASLEEP),) * 64)
        work(engine, "a", 3)
        for _ in range(3):
            work(engine, "b", 1)
        engine.hear(3)
        self.refuses("sample", engine.change, LAST, None)
        self.refuses("deed", engine.change, 0, ("off", ""))
        self.changes_nothing(TooMany, (64,), engine, "change", 0, ("off", "a"))
        one = Engine(DUO, ("b",))
        work(one, "a", 3)
        for _ in range(3):
            work(one, "b", 1)
        one.hear(3)
        # A deed that is refused by [6] is told ahead of what was heard.
        self.changes_nothing(NotLet, ("source", "b"), one, "change", 0, ("off", "a"))
        self.changes_nothing(Heard, ("b", 0), one, "change", 0, WIRE)
        one.seal()
        self.changes_nothing(Sealed, (), one, "change", 0, WIRE)

    def test_refused_as_heard_just_if_the_free_filling_tells_it(self):
        """[11] (G2): exactly if the free runs of both histories are unlike at an ear's place below heard."""
        source = drawing(77)
        refused = taken = 0
        kinds = ("mix", "mix", "clock", "peak", "latch", "level")
        while min(refused, taken) < 60:
            one = let_project(source, has_notes, least=2, most=4, kinds=kinds)
            names = tuple(name for name, _ in one[0])
            engine = Engine(one, names[:1])
            for _ in range(7):
                for name in names * len(names):
                    if engine.front(name) < 7 and engine.ready(name, 1) is None:
                        work(engine, name, 1)
            engine.hear(6)
            for _ in range(5):
                deed, sample = drawn_deed(source, names=names, kinds=kinds), source.randint(0, 6)
                before = engine.entries()
                try:
                    engine.change(sample, deed)
                    was = False
                except NotLet:
                    continue
                except Heard as error:
                    was = True
                    self.assertTrue(error.sample < 6 and error.name == names[0])
                tables = free_runs(one, before, before + ((sample, None, deed),), 6)
                worths = [dict(table).get(names[0], (0,) * 6) for table in tables]
                self.assertEqual(was, worths[0] != worths[1])
                if was:
                    self.assertEqual(error_first(worths), first_of(engine, sample, deed))
                refused, taken = refused + was, taken + (not was)
                break


def error_first(worths):
    return min(at for at in range(6) if worths[0][at] != worths[1][at])


def first_of(engine, sample, deed):
    """The sample of which the refusal tells."""
    try:
        engine.change(sample, deed)
    except Heard as error:
        return error.sample
    return None
