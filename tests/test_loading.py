"""Saves, and engines loaded from them [80], [81], and (G7) of [11]."""

from samesamples.datareadings import value_of
from samesamples.datatexts import text_of
from samesamples.engine import Engine
from samesamples.errors import BadText
from samesamples.loading import loaded
from engines import LAST, work
from helpers import ANYTHING, Case
from projects import DUO, ECHO, FED, mix, project

# The parts of a save, by their places.
PROJECT, ENTRIES, UNDONE, EARS, GIVEN, SHUT, HEARD, SEALED, FRONTS, BUSY = range(10)


def worked():
    """An engine to which much was done: it is fed, changed, undone, heard, and two hands are busy."""
    one = project(a=("clock", 0, (0, 0, 99), ()), b=mix(("a", 0), ("b", 1), ("f", 2)), f=("feed", 0, (2,), ()))
    engine = Engine(one, ("b", "x"), ((7, 9, ("anew", "b")),))
    engine.give(2, (5, -7, 9))
    for name, many in (("a", 6), ("f", 3), ("b", 1), ("b", 1), ("b", 1), ("x", 4)):
        work(engine, name, many)
    engine.hear(2)
    engine.begin(9, "a", 4)
    engine.change(8, ("anew", "a"))
    engine.undo(11)
    engine.change(9, ("knobs", "a", (0, 0, 50)))
    engine.undo(11)
    engine.begin(1, "b", 1)
    engine.begin(0, "a", 2)
    return engine


class Saving(Case):
    def test_texts(self):
        self.same(Engine(((), ()), ("a",)).save(), "((()())()()(sa;)(()()()())(ffff)i0;f()())")
        engine = Engine(((("f", ("feed", 0, (1,), ())),), ()), ("f", "e"), ((3, None, ("anew", "f")),))
        engine.give(1, (5, -6))
        engine.shut(0)
        work(engine, "f", 2)
        work(engine, "e", 1)
        engine.hear(1)
        engine.undo(4)
        engine.begin(2, "e", 7)
        engine.seal()
        project_text = "(((sf;(sfeed;i0;(i1;)())))())"
        text = project_text + "((i3;i4;(sanew;sf;)))((sanew;sf;))(sf;se;)(()(i5;i-6;)()())(tfff)i1;t((se;i1;)(sf;i2;))((i2;se;i1;i7;f))"
        self.same(engine.save(), "(" + text + ")")
        self.same(loaded(engine.save()).save(), engine.save())

    def test_told_by_the_questions(self):
        engine = worked()
        self.same(engine.busy(), ((0, "a", 6, 2, False), (1, "b", 3, 1, False), (9, "a", 6, 4, True)))
        told = tuple(getattr(engine, word)() for word in ("project", "entries", "undone", "ears", "given"))
        told += ((False,) * 4,) + tuple(getattr(engine, word)() for word in ("heard", "sealed", "fronts", "busy"))
        self.same(engine.save(), text_of(told))


class Loading(Case):
    def alike(self, engine):
        """The loaded engine answers all that is asked from now on as the one does that was saved."""
        other = loaded(text=engine.save())
        self.same(other.save(), engine.save())
        for _ in range(3):
            for name in ("a", "b", "f", "x"):
                front, wanted = engine.front(name), engine.wanted(name)
                self.same((other.front(name), other.wanted(name)), (front, wanted))
                self.same(other.worths(name, wanted, front), engine.worths(name, wanted, front))
            for call in (("end", 0), ("end", 1), ("end", 9), ("shut", 2), ("begin", 3, "f", 2), ("end", 3), ("begin", 3, "b", 1), ("end", 3), ("hear", 2)):
                told = []
                for one in (engine, other):
                    try:
                        told.append(getattr(one, call[0])(*call[1:]))
                    except ValueError as error:
                        told.append((type(error).__name__,) + tuple(vars(error).values()))
                self.same(told[0], told[1])
            self.same(other.save(), engine.save())

    def test_new_worked_changed_sealed(self):
        self.alike(Engine(DUO, ("b",), ECHO))
        self.alike(worked())
        engine = worked()
        engine.seal()
        self.alike(engine)
        engine = worked()
        engine.drop(0)
        engine.change(2, ("wire", "b", 0, "a", 1))
        self.alike(engine)

    def test_what_slips_took_in(self):
        one = project(a=("clock", 0, (0, 0, 99), ()), b=mix(("a", 3)))
        engine = Engine(one, ("b",))
        work(engine, "a", 4)
        engine.begin(0, "b", 4)
        engine.change(1, ("anew", "a"))
        other = loaded(engine.save())
        self.same((other.end(0), other.front("b"), other.worths("b", 0, 4)), (True, 4, (0, 0, 0, 0)))

    def test_slips_of_names_that_never_stand(self):
        engine = Engine(DUO, ("z",))
        work(engine, "z", 2)
        engine.begin(3, "z", 3)
        other = loaded(engine.save())
        for one in (engine, other):
            one.end(3)
            one.change(6, ("put", "z", "clock", (0, 0, 99), ()))
            work(one, "z", 5)
            self.same(one.change(9, ("knobs", "z", (0, 0, 50))), (("z", 9),))
            work(one, "z", 2)
            self.same(one.worths("z", 0, 11), (0, 0, 0, 0, 0, 0, 0, 1, 2, 3, 4))

    def test_states_go_on(self):
        one = project(a=("noise", 0, (3, 999), ()), b=("mean", 0, (5,), (("a", 0),)))
        engine, other = Engine(one, ("b",)), Engine(one, ("b",))
        for name in "ab":
            work(engine, name, 40)
        for many in (1, 7, 2, 30):
            for name in "ab":
                work(other, name, many)
            other = loaded(other.save())
        self.same(engine.hear(40), other.hear(40))

    def test_example(self):
        engine = loaded("((()())()()(sa;)(()()()())(ffff)i0;f((sa;i2;))())")
        self.same(engine.hear(1), ((0,),))

    def test_far_fronts(self):
        one = project(a=("clock", 0, (0, 0, 30000), ()), f=("feed", 0, (0,), ()))
        saved = list(value_of(Engine(one, ("a",)).save()))
        saved[FRONTS] = (("a", LAST), ("f", LAST))
        self.raises(BadText, (0,), loaded, text_of(tuple(saved)))
        saved[SHUT] = (True, False, False, False)
        saved[HEARD] = LAST - 1
        engine = loaded(text_of(tuple(saved)))
        self.same((engine.hear(1), engine.worths("f", LAST - 2, LAST)), (((LAST - 1,),), (0, 0)))


class Refusing(Case):
    def refused(self, saved):
        self.raises(BadText, (0,), loaded, text_of(tuple(saved)))

    def bent(self, at, *things, engine=None):
        """Saves with one part bent are refused."""
        for thing in things:
            saved = list(value_of((engine or worked()).save()))
            saved[at] = thing
            self.refused(saved)

    def taken(self, at, *things, engine=None):
        for thing in things:
            saved = list(value_of((engine or worked()).save()))
            saved[at] = thing
            self.same(loaded(text_of(tuple(saved))).save(), text_of(tuple(saved)))

    def test_each_text_that_is_cut_off(self):
        for engine in (Engine(((), ()), ("a",)), worked()):
            text = engine.save()
            for end in range(len(text)):
                self.raises(BadText, (0,), loaded, text[:end])
            for more in ("n", " ", "\n", ")", "()"):
                self.raises(BadText, (0,), loaded, text + more)
                self.raises(BadText, (0,), loaded, more + text)

    def test_texts_that_are_none(self):
        for thing in ANYTHING + ("\t", "\x25", "\x7f"):
            if not isinstance(thing, str) or not all(" " <= sign <= "~" and sign != "\x25" or sign == "\n" for sign in thing):
                self.refuses("text", loaded, thing)
            else:
                self.raises(BadText, (0,), loaded, thing)
        for value in (None, (), ((),) * 9, ((),) * 10, ((),) * 11):
            self.raises(BadText, (0,), loaded, text_of(value))
        saved = value_of(worked().save())
        self.refused(saved[:9])
        self.refused(saved + ((),))
        self.refused(saved[1:] + saved[:1])
        self.refused(saved[::-1])

    def test_project_entries_undone_ears(self):
        boxes = worked().project()[0]
        self.bent(PROJECT, None, (), (boxes,), (boxes[::-1], ()), (boxes[1:], ()), (boxes + boxes[-1:], ()),
                  ((("a", ("level", 1, (5,), ())),), ()), ((("a", ("level", False, (5,), ())),), ()), ((("a", ("level", 0, (True,), ())),), ()))
        self.bent(ENTRIES, None, ((9, 7, ("anew", "b")),), ((True, None, ("anew", "b")),), ((7, 9, ("anew", "B")),), ((LAST, None, ("anew", "b")),),
                  ((7, LAST + 1, ("anew", "b")),), ((7, 9),), (("off", "z"),), ((0, 0, ("off", "z")),) * 65)
        self.bent(UNDONE, None, (None,), ("off", "z"), (("off",),), ((7, 9, ("anew", "b")),), (("wire", "b", 0, "a", 2048),), (("off", "z"),) * 65)
        # The entries that can be undone, and the deeds that can be redone, are together at most sixty-four.
        new = Engine(DUO, ("b",))
        self.taken(UNDONE, (("off", "z"),) * 64, engine=new)
        saved = list(value_of(new.save()))
        ended = (3, 4, ("off", "z"))
        saved[ENTRIES], saved[UNDONE] = (ended, (3, None, ("off", "z")), ended, ended), (("off", "z"),) * 63
        self.same(loaded(text_of(tuple(saved))).undone(), (("off", "z"),) * 63)
        saved[UNDONE] += (("off", "z"),)
        self.refused(saved)
        self.bent(EARS, None, (), ("b", "b"), ("b", "X"), ("b", 1), ("b", "x", "c", "d", "e"), "b")

    def test_given_shut_sealed(self):
        sound = (5, -7, 9)
        self.bent(GIVEN, None, ((), (), sound), ((), (), sound, (), ()), ((), (), (5, True, 9), ()), ((), (), (5, 1048576, 9), ()), (0, (), sound, ()))
        self.taken(GIVEN, ((), (), sound + (1, 2), ()), ((1,), (2,), sound, (3, 4)), ((0,) * LAST, (), sound, ()))
        self.bent(GIVEN, ((0,) * (LAST + 1), (), sound, ()))
        self.bent(SHUT, None, (), (False,) * 3, (False,) * 5, (False, False, False, 0), (False, False, False, None), False)
        self.taken(SHUT, (True,) * 4, (False, False, True, False))
        self.bent(SEALED, None, 0, 1, (), "t")
        self.taken(SEALED, True)

    def test_heard_and_fronts(self):
        fronts = (("a", 6), ("b", 3), ("f", 3), ("x", 4))
        self.same(worked().fronts(), fronts)
        self.bent(HEARD, None, -1, True, False, "0", (0,), 4, 10 ** 59)
        self.taken(HEARD, 0, 1, 3)
        self.bent(HEARD, 1, engine=Engine(DUO, ("b",)))
        self.bent(FRONTS, None, fronts[::-1], fronts[:1] + fronts, (("a", 6), ("b", 3), ("f", 3), ("x", 0)), (("a", 6), ("b", True), ("f", 3), ("x", 4)),
                  (("a", 6), ("b", 3), ("f", 3), ("x", LAST + 1)), (("a", 6), ("b", 3), ("f", 3), ("X", 4)), (("a", 6), ("b", 3), ("f", 3), ("x", 4, 0)),
                  fronts[1:], fronts[2:], fronts[:3], fronts[:3] + (("x", 1),))
        self.taken(FRONTS, fronts[:3] + (("x", LAST),), fronts[:3] + (("x", 2),), (("a", 6), ("b", 3)) + fronts[3:], fronts[:3] + (("wz", 7), ("x", 4)))

    def test_busy(self):
        first, second, third = (0, "a", 6, 2, False), (1, "b", 3, 1, False), (9, "a", 6, 4, True)
        self.same(worked().busy(), (first, second, third))
        self.bent(BUSY, None, (first, third, second), (first, first), ((0, "a", 6, 2, False), (0, "b", 3, 1, False)), ((0, "a", 6, 2),), ("a",),
                  (first, (1, "a", 6, 1, False)), ((0, "a", 5, 2, False),), ((0, "a", 7, 2, False),), ((0, "x", 0, 2, False),), ((0, "zz", 1, 2, False),),
                  ((16, "a", 6, 2, False),), ((-1, "a", 6, 2, False),), ((False, "a", 6, 2, False),), ((0, "A", 6, 2, False),), ((0, "a", 6, 0, False),),
                  ((0, "a", 6, 2049, False),), ((0, "a", 6, True, False),), ((0, "a", 6, 2, 0),), ((0, "a", 6, 2, None),), ((0, "a", -1, 2, True),),
                  ((0, "a", LAST - 1, 2, True),), ((0, "a", True, 2, True),), ((0, "a", LAST, 0, True),))
        self.taken(BUSY, (), (first,), (third,), (first, (1, "a", 6, 1, True), (2, "a", 3, 9, True)), ((0, "zz", 0, 2048, False),), ((15, "x", 4, 1, False),),
                   ((0, "a", LAST - 1, 1, True),), ((3, "zz", LAST - 2048, 2048, True),), ((0, "a", 6, 2048, False),))

    def test_places_that_are_not_sure(self):
        engine = Engine(FED, ("g",))
        engine.give(1, (1, 2, 3))
        for fronts, busy, sure in (
            ((("f", 3),), (), True), ((("f", 4),), (), False), ((("g", 5),), (), True), ((("g", 6),), (), False),
            ((), ((0, "f", 0, 3, False),), True), ((), ((0, "f", 0, 4, False),), False), ((), ((0, "f", 0, 4, True),), True),
            ((("g", 4),), ((0, "g", 4, 1, False),), True), ((("g", 4),), ((0, "g", 4, 2, False),), False), ((), ((0, "zz", 0, 9, False),), True),
        ):
            saved = list(value_of(engine.save()))
            saved[FRONTS], saved[BUSY] = fronts, busy
            if sure:
                self.same(loaded(text_of(tuple(saved))).fronts(), fronts)
            else:
                self.refused(saved)
                saved[SHUT] = (False, True, False, False)
                self.same(loaded(text_of(tuple(saved))).fronts(), fronts)

    def test_places_where_the_feed_does_not_stand_are_sure(self):
        engine = Engine(FED, ("g",), ((3, 6, ("all", (("off", "g"), ("off", "f")))), (8, None, ("all", (("off", "g"), ("put", "f", "level", (5,), ()))))))
        engine.give(1, (1, 2, 3))
        for front, sure in ((6, True), (7, False), (9, False)):
            saved = list(value_of(engine.save()))
            saved[FRONTS] = (("f", front),)
            if sure:
                self.same(loaded(text_of(tuple(saved))).worths("f", 0, front), (1, 2, 3, 0, 0, 0))
            else:
                self.refused(saved)
