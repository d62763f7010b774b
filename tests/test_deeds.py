"""Deeds, done or refused [6], [57], and what follows [62]."""

from samesamples.deedkinds import is_deed
from samesamples.deeds import done
from samesamples.errors import NotLet
from samesamples.projectkinds import is_fresh, is_project, reason_against
from samesamples.scorenotes import has_notes
from helpers import ANYTHING, Case, drawing
from histories import drawn_deed, plain_done
from projects import AWAY, CROWD, DUO, LEVEL, SOUNDLESS, let_project, mix, project, voices
from scores import SONG

FULL = tuple((f"n{at:02}", LEVEL) for at in range(24))
SHELF = tuple((f"s{at}", SONG) for at in range(8))
OFF_A, OFF_B = ("off", "a"), ("off", "b")


class Deeds(Case):
    def does(self, one, deed, behind, number=0):
        self.assertIs(is_deed(deed), True)
        self.same(done(one, deed, number), behind)

    def refuses_it(self, one, deed, reason, name):
        self.assertIs(is_deed(deed), True)
        self.raises(NotLet, (reason, name), done, one, deed, 0)
        if deed[0] != "all":
            self.raises(NotLet, (reason, name), done, one, ("all", (deed,)), 0)
            self.raises(NotLet, (reason, name), done, one, ("all", (("anew", one[0][0][0]), deed) if one[0] else (deed,)), 0)

    def test_each_deed(self):
        one = project({"s": SONG}, a=LEVEL, b=mix(("a", 0), None))
        self.does(((), ()), ("put", "c", "level", (5,), ()), project(c=LEVEL))
        self.does(one, ("put", "a", "mix", ((1,), 2), (("b", 3),)), project({"s": SONG}, a=("mix", 0, ((1,), 2), (("b", 3),)), b=one[0][1][1]))
        self.does(one, OFF_B, project({"s": SONG}, a=LEVEL))
        self.does(one, ("knobs", "a", (-9,)), project({"s": SONG}, a=("level", 0, (-9,), ()), b=one[0][1][1]))
        self.does(one, ("knobs", "b", ((7, 8), 9)), project({"s": SONG}, a=LEVEL, b=("mix", 0, ((7, 8), 9), (("a", 0), None))))
        self.does(one, ("wire", "b", 1, "b", 2047), project({"s": SONG}, a=LEVEL, b=mix(("a", 0), ("b", 2047))))
        self.does(one, ("wire", "b", 0, "b", 1), project({"s": SONG}, a=LEVEL, b=mix(("b", 1), None)))
        self.does(one, ("loose", "b", 0), project({"s": SONG}, a=LEVEL, b=mix(None, None)))
        self.does(one, ("loose", "b", 1), one)
        self.does(one, ("anew", "a"), project({"s": SONG}, a=("level", 41, (5,), ()), b=one[0][1][1]), 40)
        self.does(one, ("score", "s", SOUNDLESS), (one[0], (("s", SOUNDLESS),)))
        self.does(one, ("score", "r", SOUNDLESS), (one[0], (("r", SOUNDLESS), ("s", SONG))))
        self.does(one, ("noscore", "s"), (one[0], ()))
        self.does(one, ("all", ()), one)
        self.does(one, ("all", (("noscore", "s"), OFF_B, OFF_A)), ((), ()))
        self.same(done(project=DUO, deed=("anew", "a"), number=63)[0][0][1][1], 64)

    def test_marks(self):
        marked = project(a=("level", 7, (5,), ()))
        self.does(marked, ("put", "a", "clock", (0, 0, 3), ()), project(a=("clock", 7, (0, 0, 3), ())), 3)
        self.does(marked, ("put", "b", "level", (5,), ()), project(a=("level", 7, (5,), ()), b=LEVEL), 3)
        self.does(marked, ("knobs", "a", (6,)), project(a=("level", 7, (6,), ())), 3)
        self.does(marked, ("anew", "a"), project(a=("level", 4, (5,), ())), 3)
        self.does(marked, ("all", (OFF_A, ("put", "a", "level", (5,), ()))), project(a=LEVEL), 3)
        self.does(marked, ("all", (("put", "a", "level", (5,), ()), ("anew", "a"))), project(a=("level", 4, (5,), ())), 3)
        self.does(marked, ("all", (("anew", "a"), ("put", "a", "level", (6,), ()))), project(a=("level", 4, (6,), ())), 3)
        wired = project(a=("mix", 5, ((1, 2), 0), (None, ("a", 1))))
        self.does(wired, ("wire", "a", 0, "a", 2), project(a=("mix", 5, ((1, 2), 0), (("a", 2), ("a", 1)))))
        self.does(wired, ("loose", "a", 1), project(a=("mix", 5, ((1, 2), 0), (None, None))))

    def test_fewer_inlets(self):
        one = project(b=mix(("b", 1), ("b", 2)))
        self.does(one, ("put", "b", "mix", ((1,), 0), (None,)), project(b=("mix", 0, ((1,), 0), (None,))))
        self.refuses_it(one, ("knobs", "b", ((1,), 0)), "knobs", "b")
        self.refuses_it(one, ("knobs", "b", ((1, 2, 3), 0)), "knobs", "b")

    def test_each_reason(self):
        one = project({"s": SONG}, a=LEVEL, b=mix(("a", 0)), v=("voices", 0, voices("s"), (None,)))
        for deed in (("off", "z"), ("knobs", "z", (5,)), ("wire", "z", 0, "a", 0), ("loose", "z", 0), ("anew", "z")):
            self.refuses_it(one, deed, "box", "z")
        self.refuses_it(one, ("noscore", "z"), "score", "z")
        self.refuses_it(one, ("noscore", "a"), "score", "a")
        self.refuses_it(one, ("knobs", "a", ((1,), 0)), "knobs", "a")
        self.refuses_it(one, ("knobs", "b", ((1, 2), 0)), "knobs", "b")
        self.refuses_it(one, ("knobs", "v", ("down",)), "knobs", "v")
        self.refuses_it(one, ("wire", "a", 0, "b", 1), "inlet", "a")
        self.refuses_it(one, ("wire", "b", 1, "b", 1), "inlet", "b")
        self.refuses_it(one, ("loose", "b", 10 ** 30), "inlet", "b")
        self.refuses_it(one, OFF_A, "source", "b")
        self.refuses_it(one, ("wire", "b", 0, "z", 9), "source", "b")
        self.refuses_it(one, ("put", "c", "mix", ((1,), 0), (("z", 1),)), "source", "c")
        self.refuses_it(one, ("noscore", "s"), "lost", "v")
        self.refuses_it(one, ("knobs", "v", voices("t")), "lost", "v")
        self.refuses_it(one, ("put", "c", "voices", voices("t"), (None,)), "lost", "c")
        for score in (AWAY, CROWD):
            self.refuses_it(one, ("score", "s", score), "notes", "s")
            self.refuses_it(one, ("score", "t", score), "notes", "t")
        self.refuses_it(one, ("wire", "b", 0, "b", 0), "ring", "b")
        self.refuses_it(one, ("put", "a", "mix", ((1,), 0), (("b", 0),)), "ring", "a")

    def test_which_comes_first(self):
        one = project(a=LEVEL, b=mix(("a", 0)))
        self.refuses_it(one, ("all", (("noscore", "s"), ("off", "z"))), "score", "s")
        self.refuses_it(one, ("all", (OFF_A, ("loose", "b", 1))), "inlet", "b")
        self.refuses_it(one, ("all", (OFF_A, ("loose", "a", 0))), "box", "a")
        self.refuses_it(one, ("all", (("put", "a", "mix", ((1,), 0), (("b", 0),)), ("score", "s", AWAY))), "notes", "s")
        self.refuses_it(one, ("all", (("wire", "b", 0, "b", 0), OFF_A)), "ring", "b")
        self.refuses_it(one, ("all", (("wire", "b", 0, "z", 0), ("put", "a", "voices", voices("x"), (None,)))), "source", "b")

    def test_only_the_end_of_an_all_must_be_let(self):
        one = project(a=LEVEL, b=mix(("a", 0)))
        self.does(one, ("all", (OFF_A, OFF_B)), ((), ()))
        self.does(one, ("all", (OFF_A, ("put", "a", "level", (9,), ()))), project(a=("level", 0, (9,), ()), b=mix(("a", 0))))
        self.does(one, ("all", (("score", "s", AWAY), ("score", "s", SONG))), (one[0], (("s", SONG),)))
        self.does(one, ("all", (("wire", "b", 0, "b", 0), ("wire", "b", 0, "a", 1))), project(a=LEVEL, b=mix(("a", 1))))

    def test_how_many(self):
        self.same(len(done((FULL[:23], ()), ("put", "z", "level", (5,), ()), 0)[0]), 24)
        self.refuses_it((FULL, ()), ("put", "z", "level", (5,), ()), "many", "z")
        self.same(dict(done((FULL, ()), ("put", "n07", "level", (6,), ()), 0)[0])["n07"], ("level", 0, (6,), ()))
        self.does((FULL, ()), ("all", (("off", "n05"), ("put", "n05", "level", (5,), ()))), (FULL, ()))
        self.refuses_it((FULL, ()), ("all", (("put", "z", "level", (5,), ()), ("off", "n05"))), "many", "z")
        self.same(len(done(((), SHELF[:7]), ("score", "z", SONG), 0)[1]), 8)
        self.refuses_it(((), SHELF), ("score", "z", SONG), "many", "z")
        self.does(((), SHELF), ("score", "s3", SONG), ((), SHELF))
        self.refuses_it((FULL, ()), ("put", "z", "mix", ((1,), 0), (("y", 0),)), "many", "z")
        self.refuses_it(((), SHELF), ("score", "z", AWAY), "many", "z")

    def test_drawn_deeds(self):
        source = drawing(57)
        told = {}
        for _ in range(1500):
            one = let_project(source, has_notes)
            deed, number = drawn_deed(source), source.randint(0, 70)
            self.assertIs(is_deed(deed), True)
            behind, refusal = plain_done(one, deed, number)
            word = refusal and refusal[0]
            told[word] = told.get(word, 0) + 1
            if refusal is not None:
                self.raises(NotLet, refusal, done, one, deed, number)
            else:
                self.same(done(one, deed, number), behind)
                self.assertIs(is_project(behind), True)
                self.same(reason_against(behind), None)
        self.assertTrue(len(told) == 9 and min(told.values()) > 3, told)

    def test_deeds_one_after_another_and_in_one_all(self):
        source = drawing(62)
        tried = 0
        for _ in range(300):
            one = let_project(source, has_notes)
            deeds = [drawn_deed(source, deep=False) for _ in range(source.randint(1, 4))]
            deeds = [deed for deed in deeds if deed[0] != "all"]
            behind = one
            try:
                for deed in deeds:
                    behind = done(behind, deed, 5)
            except NotLet:
                continue
            tried += 1
            self.same(done(one, ("all", tuple(deeds)), 5), behind)
            self.assertTrue(is_fresh(behind) or any(deed[0] == "anew" for deed in deeds))
        self.assertTrue(tried > 30, tried)

    def test_wrong_inputs(self):
        for thing in ANYTHING:
            self.refuses("deed", done, DUO, thing, None)
            if isinstance(thing, bool) or not isinstance(thing, int) or thing < 0:
                self.refuses("number", done, DUO, OFF_A, thing)
        self.refuses("deed", done, DUO, ("all", (("all", ()),)), 0)
        self.refuses("deed", done, DUO, ("wire", "b", True, "a", 0), 0)
        self.refuses("deed", done, DUO, ["off", "a"], 0)
        self.refuses("number", done, DUO, ("off", "zz"), True)

    def test_nothing_is_changed_by_a_refusal(self):
        one = project(a=LEVEL, b=mix(("a", 0)))
        for _ in range(2):
            self.raises(NotLet, ("source", "b"), done, one, OFF_A, 0)
            self.same(one, project(a=LEVEL, b=mix(("a", 0))))
