"""Entries, standings, seams and segments [7], [60], [61], and what follows [62]."""

from samesamples.histories import is_entries, sleeping, standing
from samesamples.projectkinds import reason_against
from samesamples.projects import beside, life_of, names_of
from samesamples.scorenotes import has_notes
from samesamples.segments import seams_of, segments_of
from helpers import ANYTHING, Case, drawing
from histories import LAST, drawn_entries, plain_standing
from projects import DUO, ECHO, LEVEL, let_project, mix, project
from scores import SONG

OFF_A, OFF_B = ("off", "a"), ("off", "b")
PUT_C = ("put", "c", "level", (5,), ())


class Entries(Case):
    def test_kinds(self):
        for entries in ((), ECHO, ((0, None, OFF_A),), ((0, 0, OFF_A),), ((LAST - 1, LAST, OFF_A),), ((LAST - 1, LAST - 1, OFF_A),),
                        ((7, LAST, OFF_A), (3, 4, ("all", ())), (7, None, OFF_A)), ((5, 5, OFF_A),) * 64):
            self.assertIs(is_entries(entries), True, entries)
        for entries in (
            ((0, None, OFF_A),) * 65, [(0, None, OFF_A)], ([0, None, OFF_A],), ((0, None),), ((0, None, OFF_A, 0),), ((LAST, None, OFF_A),),
            ((LAST, LAST, OFF_A),), ((-1, None, OFF_A),), ((True, None, OFF_A),), ((None, None, OFF_A),), (("0", None, OFF_A),),
            ((5, 4, OFF_A),), ((5, LAST + 1, OFF_A),), ((0, True, OFF_A),), ((0, False, OFF_A),), ((0, "1", OFF_A),), ((0, (), OFF_A),),
            ((0, None, ("off", "A")),), ((0, None, None),), ((0, None, ["off", "a"]),), ((0, None, ("all", (("all", ()),))),),
            ((0, None, ("wire", "b", 0, "a", True)),), ((0, None, OFF_A), None), None, "abc", 3, (0, None, OFF_A), ((),),
            ((0, None, ("put", "a", "level", (True,), ())),),
        ):
            self.assertIs(is_entries(entries), False, entries)
        for thing in ANYTHING:
            self.assertIs(is_entries(thing=thing), isinstance(thing, tuple) and thing == ())


class Standings(Case):
    def test_begins_and_untils(self):
        one = project(a=LEVEL, b=LEVEL)
        entries = ((3, 7, OFF_A),)
        for sample in (0, 2, 7, 8, LAST - 1):
            self.same((standing(one, entries, sample), sleeping(one, entries, sample)), (one, ()))
        for sample in (3, 6):
            self.same((standing(one, entries, sample), sleeping(one, entries, sample)), (project(b=LEVEL), ()))
        # An entry whose until is its begin never stands; one without an until stands to the end.
        self.same(standing(one, ((3, 3, OFF_A),), 3), one)
        self.same(standing(one, ((3, None, OFF_A),), LAST - 1), project(b=LEVEL))
        self.same(standing(one, ((0, LAST, OFF_A),), LAST - 1), project(b=LEVEL))
        self.same(standing(project=one, entries=(), sample=5), one)
        self.same(sleeping(project=one, entries=(), sample=5), ())

    def test_the_sequence_of_begins_and_numbers(self):
        def knobs(worth):
            return "knobs", "a", (worth,)

        one = project(a=LEVEL)
        entries = ((4, None, knobs(40)), (2, None, knobs(20)), (4, 9, knobs(41)), (2, 5, knobs(21)), (0, 0, knobs(1)))
        for sample, worth in ((0, 5), (1, 5), (2, 21), (3, 21), (4, 41), (5, 41), (8, 41), (9, 40), (99, 40)):
            self.same(standing(one, entries, sample), project(a=("level", 0, (worth,), ())))

    def test_numbers_are_those_of_the_entries(self):
        one = project(a=LEVEL)
        entries = ((9, None, ("anew", "a")), (1, None, OFF_B), (3, None, ("anew", "a")))
        self.same(standing(one, entries, 5), project(a=("level", 3, (5,), ())))
        self.same(standing(one, entries, 9), project(a=("level", 1, (5,), ())))
        self.same(sleeping(one, entries, 0), ())
        self.same(sleeping(one, entries, 9), (1,))

    def test_sleepers_wake(self):
        one = project(a=LEVEL)
        # The first one sleeps until the second one puts its box, and sleeps again when that one ends.
        entries = ((2, None, ("all", (("knobs", "c", (6,)),))), (1, 5, PUT_C), (0, 8, OFF_A))
        self.same([sleeping(one, entries, sample) for sample in (0, 1, 2, 4, 5, 8)], [(), (), (), (), (0,), (0,)])
        self.same(standing(one, entries, 3), project(c=("level", 0, (6,), ())))
        # The one that is done first takes out what the later one asks for.
        entries = ((3, None, ("knobs", "a", (6,))), (2, 6, OFF_A), (4, None, OFF_A))
        self.same([sleeping(one, entries, sample) for sample in (2, 3, 4, 5, 6)], [(), (0,), (0, 2), (0, 2), ()])
        self.same(standing(one, entries, 6), ((), ()))
        self.same(sleeping(one, ((0, None, OFF_B),) * 64, 0), tuple(range(64)))
        self.same(sleeping(DUO, ((5, None, OFF_A), (5, None, OFF_B), (6, None, OFF_A)), 6), (0,))

    def test_sixty_four_entries(self):
        entries = tuple((at, at + 3, ("put", f"n{at % 30:02}", "level", (at,), ())) for at in range(64))
        self.same(standing(DUO, entries, 40), plain_standing(DUO, entries, 40)[0])
        self.same(names_of(standing(((), ()), entries, 40)), ("n08", "n09", "n10"))
        entries = tuple((at, None, ("put", f"n{at:02}", "level", (at,), ())) for at in range(64))
        self.same(sleeping(((), ()), entries, 63), tuple(range(24, 64)))
        self.same(len(standing(((), ()), entries, 63)[0]), 24)

    def test_drawn_histories(self):
        source = drawing(60)
        slept = stood = 0
        for _ in range(120):
            one, entries = let_project(source, has_notes), drawn_entries(source, 6)
            self.assertIs(is_entries(entries), True)
            for sample in range(0, 17):
                told, asleep = plain_standing(one, entries, sample)
                self.same((standing(one, entries, sample), sleeping(one, entries, sample)), (told, asleep))
                self.same(reason_against(told), None)
                slept += len(asleep)
                stood += told != one
                for name in names_of(told):
                    self.check_mark(one, entries, sample, name)
        self.assertTrue(slept > 100 and stood > 100)

    def check_mark(self, one, entries, sample, name):
        """[62]: a mark above 0 is one above the number of an entry that stands there and does not sleep."""
        mark = life_of(standing(one, entries, sample), name)[1]
        if mark > 0:
            begin, until, _ = entries[mark - 1]
            self.assertTrue(begin <= sample and (until is None or sample < until))
            self.assertNotIn(mark - 1, sleeping(one, entries, sample))
            if begin > 0:
                ahead = standing(one, entries, begin - 1)
                self.assertTrue(all(box[1] != mark for _, box in ahead[0]))

    def test_beside_one_another(self):
        source = drawing(61)
        for _ in range(40):
            one = let_project(source, has_notes, names=("a", "b"), most=2)
            other = project(x=mix(("y", 1)), y=LEVEL)
            if not one[1]:
                entries = drawn_entries(source, names=("a", "b"), titles=("s",))
                for sample in range(0, 15, 3):
                    told = standing(one, entries, sample)
                    self.same(standing(beside(one, other), entries, sample), beside(told, other))

    def test_wrong_inputs(self):
        for function in (standing, sleeping):
            for thing in ANYTHING:
                if thing != ():
                    self.refuses("entries", function, DUO, thing, None)
                if not (isinstance(thing, int) and not isinstance(thing, bool) and 0 <= thing < LAST):
                    self.refuses("sample", function, DUO, (), thing)
            self.refuses("entries", function, DUO, ((0, None, OFF_A),) * 65, 0)
            self.refuses("sample", function, DUO, (), LAST)

    def test_asked_twice(self):
        told = standing(DUO, ECHO, 2)
        self.same(standing(DUO, (), 2), DUO)
        self.same(standing(DUO, ECHO, 2), told)
        self.same(told[0][1][1][3], (("a", 1), ("b", 1)))


class Segments(Case):
    def test_seams(self):
        self.same(seams_of(()), ())
        self.same(seams_of(((0, None, OFF_A),)), ())
        self.same(seams_of(((0, 0, OFF_A), (0, LAST, OFF_A), (5, 5, OFF_A))), (5, LAST))
        self.same(seams_of(entries=((9, 12, OFF_A), (3, None, OFF_A), (9, 9, OFF_B), (3, 12, OFF_A))), (3, 9, 12))
        self.same(seams_of(ECHO), (2,))

    def test_segments(self):
        self.same(segments_of(DUO, ()), ((0, None, DUO),))
        one = project(a=LEVEL)
        # Equal neighbours stay two segments; so do those at the seams of entries that never stand.
        entries = ((3, 3, OFF_A), (5, 8, OFF_B), (8, LAST, OFF_A))
        told = ((0, 3, one), (3, 5, one), (5, 8, one), (8, LAST, ((), ())), (LAST, None, one))
        self.same(segments_of(project=one, entries=entries), told)
        self.same(segments_of(one, ((0, None, OFF_A),)), ((0, None, ((), ())),))
        self.same(segments_of(one, ((0, 0, OFF_A),)), ((0, None, one),))
        self.same(segments_of(((), ()), ((1, 2, ("score", "s", SONG)),)), ((0, 1, ((), ())), (1, 2, ((), (("s", SONG),))), (2, None, ((), ()))))

    def test_drawn_histories(self):
        source = drawing(63)
        for _ in range(120):
            one, entries = let_project(source, has_notes), drawn_entries(source, 6)
            seams = sorted({at for begin, until, _ in entries for at in (begin, until) if at})
            self.same(seams_of(entries), tuple(seams))
            told = segments_of(one, entries)
            self.same([low for low, _, _ in told], [0] + seams)
            self.same([high for _, high, _ in told], seams + [None])
            for low, high, here in told:
                if low < LAST:
                    self.same(here, standing(one, entries, low))
                    last = min(LAST, high or LAST) - 1
                    self.same(here, standing(one, entries, last))
                    self.same(sleeping(one, entries, low), sleeping(one, entries, last))

    def test_many_segments(self):
        entries = tuple((7 * at + 1, 7 * at + 9, ("put", f"n{at % 20:02}", "level", (at,), ())) for at in range(64))
        told = segments_of(DUO, entries)
        self.same(len(told), 129)
        for low, _, here in told[::9]:
            self.same(here, plain_standing(DUO, entries, low)[0])

    def test_wrong_inputs(self):
        for thing in ANYTHING:
            if thing != ():
                self.refuses("entries", seams_of, thing)
                self.refuses("entries", segments_of, DUO, thing)
        self.refuses("entries", seams_of, ((5, 4, OFF_A),))
