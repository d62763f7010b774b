"""How far names reach, and what they need [70], [71], [72]."""

from samesamples.needs import channels_needed, needs_of
from samesamples.reaches import reach_of
from samesamples.scorenotes import has_notes
from engines import LAST, PlainEngine, needs_in, not_numbers, plain_reach
from helpers import ANYTHING, Case, drawing
from histories import Plain, drawn_entries
from projects import DUO, ECHO, FED, LEVEL, let_project, mix, project

SHUT = (None,) * 4
FEW = ("mix", "mix", "feed", "clock", "gain", "level")
ZEROS = (0, 0, 0, 0)


def put(name, box):
    return ("put", name) + box[:1] + box[2:]


def drawn_fronts(source, names, most):
    return tuple((name, source.randint(0, most)) for name in sorted(names) if source.random() < 0.6)


class Reaching(Case):
    def test_names_in_still(self):
        # Names that stand nowhere are told if they are in fronts, and only then.
        self.same(reach_of(DUO, (), (), ("z",), ZEROS, 5), (("a", 5), ("b", 5)))
        self.same(reach_of(DUO, (), (("z", 2),), ("z",), ZEROS, 5), (("a", 5), ("b", 5), ("z", 2)))
        self.same(reach_of(DUO, (), (("z", 2),), (), ZEROS, 5), (("a", 5), ("b", 5), ("z", 5)))
        self.same(reach_of(DUO, (), (("a", 3),), ("a", "a"), ZEROS, 5), (("a", 3), ("b", 3)))
        self.same(reach_of(DUO, (), (("a", 3), ("b", 1)), ("b",), ZEROS, 5), (("a", 5), ("b", 1)))
        self.same(reach_of(DUO, (), (), ("b",), ZEROS, 5), (("a", 5), ("b", 0)))

    def test_fronts_and_goals(self):
        self.same(reach_of(DUO, (), (("a", 9), ("b", 4)), ("a",), ZEROS, 5), (("a", 9), ("b", 5)))
        self.same(reach_of(DUO, (), (("a", 9), ("b", 7)), ("a", "b"), ZEROS, 5), (("a", 9), ("b", 7)))
        self.same(reach_of(DUO, (), (("a", 9),), ("a", "b"), ZEROS, 0), (("a", 9),))
        self.same(reach_of(DUO, (), (), (), ZEROS, LAST), (("a", LAST), ("b", LAST)))
        self.same(reach_of(((), ()), (), (), (), ZEROS, 5), ())
        # A front above a blocked source's reach is not blocked below it.
        self.same(reach_of(FED, (), (("g", 8),), (), (0, 3, 0, 0), 12), (("f", 3), ("g", 8)))
        self.same(reach_of(FED, (), (("f", 5), ("g", 6)), (), (0, 3, 0, 0), 12), (("f", 5), ("g", 7)))

    def test_feeds(self):
        self.same(reach_of(FED, (), (), (), (9, 3, 9, 9), 12), (("f", 3), ("g", 5)))
        self.same(reach_of(FED, (), (), (), (9, None, 9, 9), 12), (("f", 12), ("g", 12)))
        self.same(reach_of(FED, (), (), (), (9, 30, 9, 9), 12), (("f", 12), ("g", 12)))
        self.same(reach_of(FED, (), (("f", 4),), (), (9, 4, 9, 9), 12), (("f", 4), ("g", 6)))
        entries = ((2, 5, ("knobs", "f", (0,))), (9, None, ("knobs", "f", (3,))))
        self.same(reach_of(FED, entries, (), (), (4, 3, 0, None), 12), (("f", 4), ("g", 6)))
        self.same(reach_of(FED, entries, (), (), (None, 3, 0, 7), 12), (("f", 5), ("g", 7)))
        self.same(reach_of(FED, entries, (("f", 9),), (), (0, 0, 0, 10), 12), (("f", 10), ("g", 12)))

    def test_behind_a_blocked_place_all_are_blocked(self):
        # The feed stands for one sample alone, and nothing is carried behind it.
        entries = ((3, 4, put("c", ("feed", 0, (2,), ()))), (4, None, put("c", LEVEL)), (6, 7, ("all", (("off", "c"),))))
        told = reach_of(((), ()), entries, (), (), ZEROS, 9)
        self.same(told, (("c", 3),))
        self.same(reach_of(((), ()), entries, (("c", 4),), (), ZEROS, 9), (("c", 9),))
        one = project(b=mix(("c", 2)), c=mix(None))
        self.same(reach_of(one, ((3, 4, put("c", ("feed", 0, (2,), ()))),), (), (), ZEROS, 9), (("b", 5), ("c", 3)))

    def test_blocked_places_where_a_name_does_not_stand_are_not_read(self):
        entries = ((3, 6, ("all", (("loose", "b", 0), ("off", "c")))),)
        one = project(b=mix(("c", 2)), c=LEVEL)
        self.same(reach_of(one, entries, (("c", 3),), ("c",), ZEROS, 12), (("b", 8), ("c", 3)))
        self.same(reach_of(one, entries, (), ("c",), ZEROS, 12), (("b", 2), ("c", 0)))
        # Delays that reach ahead of sample 0 read nothing.
        self.same(reach_of(project(b=mix(("c", 2047)), c=LEVEL), (), (), ("c",), ZEROS, 2000), (("b", 2000), ("c", 0)))
        self.same(reach_of(project(b=mix(("c", 2047)), c=LEVEL), (), (), ("c",), ZEROS, 2100), (("b", 2047), ("c", 0)))

    def test_drawn(self):
        source = drawing(70)
        unlike = 0
        for _ in range(150):
            one = let_project(source, has_notes, least=2, most=5, kinds=FEW)
            names = tuple(name for name, _ in one[0]) + ("ee",)
            entries = drawn_entries(source, 4, 9, names=names, kinds=FEW)
            goal, fronts = source.randint(0, 12), drawn_fronts(source, names, 14)
            still = tuple(source.choice(names) for _ in range(source.randint(0, 2)))
            amounts = tuple(source.choice((None, 0, source.randint(0, 13))) for _ in range(4))
            told = reach_of(one, entries, fronts, still, amounts, goal)
            history = Plain(one, entries, goal)
            everyone = sorted(set(history.names) | set(dict(fronts)))
            self.same(told, plain_reach(history, everyone, dict(fronts), still, amounts, goal))
            unlike += len(set(dict(told).values()))
            # [72]
            if not still:
                self.same(reach_of(one, entries, fronts, (), SHUT, goal), tuple((name, max(goal, dict(fronts).get(name, 0))) for name in everyone))
        self.assertTrue(unlike > 300, unlike)

    def test_wrong_inputs(self):
        for thing in ANYTHING:
            if thing != ():
                self.refuses("entries", reach_of, DUO, thing, None, None, None, None)
                self.refuses("fronts", reach_of, DUO, (), thing, None, None, None)
            if thing != ():
                self.refuses("still", reach_of, DUO, (), (), thing, None, None)
            self.refuses("amounts", reach_of, DUO, (), (), (), thing, None)
        for thing in not_numbers(0, 1, 7) + [LAST + 1]:
            self.refuses("goal", reach_of, DUO, (), (), (), ZEROS, thing)
        for fronts in ((("b", 1), ("a", 1)), (("a", 1), ("a", 1)), (("a", True),), (("a", -1),), (("a", None),), (("A", 1),), (["a", 1],), [("a", 1)], (("a", 1, 1),)):
            self.refuses("fronts", reach_of, DUO, (), fronts, (), ZEROS, 0)
            self.refuses("fronts", needs_of, DUO, (), fronts, "a", 0)
        for still in (["a"], ("A",), ("a", 1), "a", ("a", None)):
            self.refuses("still", reach_of, DUO, (), (), still, ZEROS, 0)
        for amounts in ((0, 0, 0), (0,) * 5, (0, 0, 0, True), (0, 0, 0, -1), [0] * 4, (0, 0, 0, "0")):
            self.refuses("amounts", reach_of, DUO, (), (), (), amounts, 0)
        self.same(reach_of(project=DUO, entries=ECHO, fronts=(), still=(), amounts=SHUT, goal=1), (("a", 1), ("b", 1)))


class Needing(Case):
    def test_until_at_or_below_the_front(self):
        self.same(needs_of(DUO, (), (("b", 5),), "b", 5), ())
        self.same(needs_of(DUO, (), (("b", 5),), "b", 3), ())
        self.same(needs_of(DUO, (), (), "b", 0), ())
        self.same(needs_of(DUO, (), (("b", 5),), "b", 6), (("a", 6), ("b", 6)))
        self.same(needs_of(DUO, (), (("a", 9), ("b", 5)), "b", 8), (("b", 8),))

    def test_names_that_do_not_stand(self):
        self.same(needs_of(DUO, (), (), "z", 4), (("z", 4),))
        self.same(needs_of(DUO, (), (("z", 4),), "z", 4), ())
        entries = ((3, 6, ("off", "g")),)
        self.same(needs_of(FED, entries, (), "g", 6), (("f", 1), ("g", 6)))
        self.same(needs_of(FED, entries, (("g", 3),), "g", 6), (("g", 6),))
        # Where a source does not stand nothing is read of it.
        entries = ((2, 5, ("all", (("loose", "g", 0), ("off", "f")))),)
        self.same(needs_of(FED, entries, (("g", 5),), "g", 7), (("g", 7),))
        self.same(needs_of(FED, entries, (("g", 5),), "g", 8), (("f", 6), ("g", 8)))

    def test_needs_up_to_a_seam(self):
        # b is needed up to 4 alone; only from 5 on it reads a.
        one = project(a=LEVEL, b=mix(None), c=mix(("b", 1)))
        entries = ((5, None, ("wire", "b", 0, "a", 0)),)
        self.same(needs_of(one, entries, (), "c", 6), (("b", 5), ("c", 6)))
        self.same(needs_of(one, entries, (), "c", 7), (("a", 6), ("b", 6), ("c", 7)))

    def test_needs_of_needs(self):
        one = project(a=mix(("b", 3)), b=mix(("c", 1), ("b", 2)), c=mix(("a", 1), ("d", 2047)), d=LEVEL)
        self.same(needs_of(one, (), (), "a", 9), (("a", 9), ("b", 6), ("c", 5)))
        self.same(needs_of(one, (), (), "c", 9), (("a", 8), ("b", 5), ("c", 9)))
        # What comes ahead of a needed place is needed, from the front on.
        self.same(needs_of(one, (), (("a", 8), ("c", 4)), "a", 9), (("a", 9), ("b", 6), ("c", 5)))
        self.same(needs_of(one, (), (("d", 0),), "c", 2048), (("a", 2047), ("b", 2044), ("c", 2048), ("d", 1)))

    def test_drawn(self):
        source = drawing(71)
        for _ in range(150):
            one = let_project(source, has_notes, least=2, most=5, kinds=FEW)
            names = tuple(name for name, _ in one[0]) + ("ee",)
            entries = drawn_entries(source, 4, 9, names=names, kinds=FEW)
            plain = PlainEngine(one, names[:1], entries)
            fronts = drawn_fronts(source, names, 9)
            plain.worked.update(fronts)
            name, until = source.choice(names), source.randint(0, 12)
            self.same(needs_of(one, entries, fronts, name, until), needs_in(plain.needed(name, until)))
            spans = tuple((source.choice(names), low, low + source.randint(0, 6)) for low in (0, 3, source.randint(0, 9)))
            told = [0] * 4
            for span, low, high in spans:
                for sample in range(low, high):
                    box = plain.history().box(span, sample)
                    if box is not None and box[0] == "feed":
                        told[box[2][0]] = max(told[box[2][0]], sample + 1)
            self.same(channels_needed(one, entries, spans), tuple(told))

    def test_channels(self):
        self.same(channels_needed(FED, (), ()), ZEROS)
        self.same(channels_needed(FED, (), (("f", 3, 3),)), ZEROS)
        self.same(channels_needed(FED, (), (("f", 3, 4),)), (0, 4, 0, 0))
        self.same(channels_needed(FED, (), (("f", 0, 9), ("f", 2, 4), ("z", 0, 99))), (0, 9, 0, 0))
        entries = ((2, 5, ("knobs", "f", (0,))), (5, 7, ("put", "f", "level", (1,), ())), (7, None, ("put", "h", "feed", (3,), ())))
        self.same(channels_needed(FED, entries, (("f", 0, 7), ("h", 0, 7))), (5, 2, 0, 0))
        self.same(channels_needed(FED, entries, (("f", 3, 8), ("h", 0, 8))), (5, 8, 0, 8))
        self.same(channels_needed(FED, entries, (("f", 5, 7),)), ZEROS)
        self.same(channels_needed(FED, (), (("f", LAST - 1, LAST),)), (0, LAST, 0, 0))

    def test_wrong_inputs(self):
        for thing in ANYTHING:
            if thing != ():
                self.refuses("entries", needs_of, DUO, thing, None, None, None)
                self.refuses("entries", channels_needed, DUO, thing, None)
                self.refuses("fronts", needs_of, DUO, (), thing, None, None)
                self.refuses("spans", channels_needed, DUO, (), thing)
            if thing not in ("a", "down"):
                self.refuses("name", needs_of, DUO, (), (), thing, None)
        for thing in not_numbers(0, 1, 7) + [LAST + 1]:
            self.refuses("until", needs_of, DUO, (), (), "a", thing)
        for spans in ([("f", 0, 1)], (["f", 0, 1],), (("f", 0),), (("F", 0, 1),), (("f", True, 1),), (("f", 0, True),), (("f", 2, 1),), (("f", -1, 1),), (("f", 0, 1, 2),), (("f", 0, None),)):
            self.refuses("spans", channels_needed, FED, (), spans)
        self.same(needs_of(project=DUO, entries=(), fronts=(), name="a", until=1), (("a", 1),))
        self.same(channels_needed(project=FED, entries=(), spans=()), ZEROS)
