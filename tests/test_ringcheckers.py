"""The checkers of heights, rings and ways [46]."""

from samesamples.errors import InvalidPaper
from samesamples.ringcheckers import lets_heights, lets_ring, lets_ways
from helpers import ANYTHING, Case, drawing
from rings import NAMES, all_rings, drawn_arrows, drawn_names, drawn_roof, meets, reached, way_sum

ABC = ("a", "b", "c")
ARROWS = (("a", "b", 2), ("b", "a", -1), ("c", "c", -1), ("b", "c", 4))


class Heights(Case):
    def bad(self, word, at, *args):
        self.raises(InvalidPaper, (word, at), lets_heights, *args)

    def test_accepted(self):
        self.same(lets_heights((), (), (), ()), 0)
        self.same(lets_heights(ABC, (), (None, None, None), (None, None, None)), 0)
        self.same(lets_heights(ABC, ARROWS[:2], (0, 5, None), (0, 2, None)), 2)
        self.same(lets_heights(ABC, ARROWS[:2], (0, 5, None), (-6, -5, -100)), 3)
        self.same(lets_heights(names=("a",), arrows=(), roof=(3,), thing=(3,)), 1)

    def test_each_entry(self):
        roof = (0, 5, None)
        for thing in (None, (), (0, 2), (0, 2, None, None), [0, 2, None], "abc", 3, True, {"a": 0}):
            self.bad("shape", -1, ABC, ARROWS[:2], roof, thing)
        for at in range(3):
            for wrong in (True, False, "0", (), (0,), [0]):
                thing = (0, 2, None)[:at] + (wrong,) + (0, 2, None)[at + 1:]
                self.bad("height", at, ABC, ARROWS[:2], roof, thing)
        self.bad("roof", 0, ABC, ARROWS[:2], roof, (1, 2, None))
        self.bad("roof", 0, ABC, ARROWS[:2], roof, (None, 2, None))
        self.bad("roof", 1, ABC, ARROWS[:2], roof, (0, 6, None))
        self.bad("arrow", 0, ABC, ARROWS[:2], roof, (0, 3, None))
        self.bad("arrow", 1, ABC, ARROWS[:2], (None, None, None), (0, 0, None))
        self.bad("arrow", 1, ABC, ARROWS[:2], (None, None, None), (None, 0, None))
        self.bad("arrow", 2, ABC, ARROWS, (None, None, None), (None, None, 0))
        self.bad("arrow", 3, ABC, ARROWS, (None, None, None), (-1, 0, None))

    def test_each_entry_is_looked_at_for_all_elements(self):
        self.bad("height", 2, ABC, ARROWS, (0, 0, 0), (9, 9, True))
        self.bad("height", 1, ABC, ARROWS, (0, 0, 0), (9, True, True))
        self.bad("roof", 2, ABC, ARROWS, (0, 0, 0), (0, 0, 1))
        self.bad("roof", 1, ABC, ARROWS, (0, 0, 0), (0, None, 1))
        self.bad("arrow", 1, ABC, ARROWS, (0, 0, 0), (0, 0, 0))

    def test_drawn_papers(self):
        source = drawing(46)
        accepted = 0
        for _ in range(600):
            names = drawn_names(source, 3)
            arrows = drawn_arrows(source, names, -2, 6, 4)
            roof = drawn_roof(source, names)
            heights = tuple(source.choice((None, source.randint(-9, 4))) for _ in names)
            if meets(names, arrows, roof, heights):
                accepted += 1
                self.same(lets_heights(names, arrows, roof, heights), len([one for one in heights if one is not None]))
            else:
                with self.assertRaises(InvalidPaper):
                    lets_heights(names, arrows, roof, heights)
        self.assertTrue(100 < accepted < 500, accepted)

    def test_wrong_inputs(self):
        for thing in ANYTHING:
            for function in (lets_heights, lets_ring, lets_ways):
                if thing != ():
                    self.refuses("arrows", function, NAMES, thing, None, None)
                self.refuses("roof", function, NAMES, (), thing, None)


class Rings(Case):
    def bad(self, word, at, *args):
        self.raises(InvalidPaper, (word, at), lets_ring, *args)

    def test_each_entry(self):
        arrows = (("a", "b", 2), ("b", "a", -3), ("c", "c", -1), ("b", "c", 4), ("c", "a", 0), ("a", "a", 0))
        roof = (0, None, None)
        self.same(lets_ring(ABC, arrows, roof, (0, 1)), -1)
        self.same(lets_ring(ABC, arrows, roof, (1, 0)), -1)
        self.same(lets_ring(ABC, arrows, roof, (2,)), -1)
        self.same(lets_ring(names=ABC, arrows=arrows, roof=roof, thing=(2,)), -1)
        for thing in (None, (), [], [0, 1], "", 0, True):
            self.bad("shape", -1, ABC, arrows, roof, thing)
        for wrong in (-1, 6, True, False, None, "0", (0,), [0]):
            self.bad("place", 0, ABC, arrows, roof, (wrong,))
            self.bad("place", 1, ABC, arrows, roof, (0, wrong, 5))
            self.bad("place", 2, ABC, arrows, roof, (2, 0, wrong))
        self.bad("next", 0, ABC, arrows, roof, (0,))
        self.bad("next", 0, ABC, arrows, roof, (0, 2))
        self.bad("next", 1, ABC, arrows, roof, (0, 1, 4))
        self.bad("next", 2, ABC, arrows, roof, (5, 0, 3))
        self.bad("twice", 1, ABC, arrows, roof, (2, 2))
        self.bad("twice", 2, ABC, arrows, roof, (0, 1, 5, 5))
        self.bad("twice", 1, ABC, arrows, roof, (5, 0, 1))
        self.bad("sum", -1, ABC, arrows, roof, (5,))
        self.bad("sum", -1, ABC, arrows, roof, (0, 3, 4))
        self.bad("roof", -1, ABC, arrows, (None, None, None), (2,))
        self.bad("roof", -1, ABC, (("a", "b", 2), ("c", "c", -1)), (0, 0, None), (1,))
        self.same(lets_ring(ABC, (("a", "b", 2), ("c", "c", -1), ("b", "c", 9)), (0, None, None), (1,)), -1)
        self.same(lets_ring(ABC, (("c", "c", -1),), (None, None, -9), (0,)), -1)

    def test_the_sequence_of_the_entries(self):
        arrows = (("a", "b", 2), ("b", "a", 3), ("c", "c", 1))
        self.bad("place", 2, ABC, arrows, (None,) * 3, (0, 2, True))
        self.bad("next", 1, ABC, arrows, (None,) * 3, (2, 2, 0))
        self.bad("twice", 1, ABC, arrows, (None,) * 3, (2, 2))
        self.bad("sum", -1, ABC, arrows, (None,) * 3, (2,))

    def test_drawn_papers(self):
        source = drawing(47)
        accepted = 0
        for _ in range(300):
            names = drawn_names(source, 4)
            arrows = drawn_arrows(source, names, -4, 4, 6)
            roof = drawn_roof(source, names)
            behind = set().union(*[reached(arrows, name) for name, top in zip(names, roof) if top is not None])
            rings = all_rings(arrows)
            papers = rings + [tuple(source.randrange(len(arrows)) for _ in range(source.randint(1, 4))) for _ in arrows]
            for paper in papers:
                if paper in rings and way_sum(arrows, paper) < 0 and arrows[paper[0]][0] in behind:
                    accepted += 1
                    self.same(lets_ring(names, arrows, roof, paper), way_sum(arrows, paper))
                else:
                    with self.assertRaises(InvalidPaper):
                        lets_ring(names, arrows, roof, paper)
        self.assertTrue(accepted > 50, accepted)


class Ways(Case):
    def bad(self, word, at, *args):
        self.raises(InvalidPaper, (word, at), lets_ways, *args)

    def test_accepted(self):
        arrows = (("a", "b", 2), ("b", "a", -1), ("c", "c", -1))
        self.same(lets_ways((), (), (), ()), ())
        self.same(lets_ways(ABC, arrows, (0, 5, None), ((), (0,), None)), (0, 2, None))
        self.same(lets_ways(("a",), (), (7,), ((),)), (7,))
        self.same(lets_ways(names=("a",), arrows=(), roof=(None,), thing=(None,)), (None,))
        # A way may go round, as long as it leads to the same heights.
        level = (("a", "b", 2), ("b", "a", -2))
        self.same(lets_ways(("a", "b"), level, (0, 5), ((), (0, 1, 0))), (0, 2))
        self.same(lets_ways(("a", "b"), level, (0, 2), ((1,), ())), (0, 2))

    def test_each_entry(self):
        arrows = (("a", "b", 2), ("b", "a", -1), ("b", "c", 0))
        roof = (0, 5, None)
        right = ((), (0,), (0, 2))
        self.same(lets_ways(ABC, arrows, roof, right), (0, 2, 2))
        for thing in (None, (), right[:2], right + ((),), list(right), "abc", 3):
            self.bad("shape", -1, ABC, arrows, roof, thing)
        for at in range(3):
            for wrong in (True, 0, "", [], (True,), (-1,), (3,), (None,), ("0",), ((),), (1, 1), (0, 0)):
                self.bad("way", at, ABC, arrows, roof, right[:at] + (wrong,) + right[at + 1:])
        self.bad("way", 0, ABC, arrows, roof, ((0,), (0,), (0, 2)))
        self.bad("way", 1, ABC, arrows, roof, ((), (1,), (0, 2)))
        self.bad("way", 2, ABC, arrows, roof, ((), (0,), (0,)))
        self.bad("way", 2, ABC, arrows, roof, ((), (0,), ()))
        self.bad("way", 1, ABC, arrows, (0, None, None), ((), (), None))
        self.bad("arrow", -1, ABC, arrows, roof, (None, (0,), (0, 2)))
        self.bad("arrow", -1, ABC, arrows, roof, ((), None, (0, 2)))
        self.bad("arrow", -1, ABC, arrows, roof, ((1,), (0,), (0, 2)))
        self.bad("arrow", 0, ABC, arrows, roof, ((), (), (2,)))
        self.bad("arrow", 2, ABC, arrows, roof, ((), (0,), None))
        self.bad("arrow", 2, ABC, arrows, roof, ((), (0,), (2,)))

    def test_the_sequence_of_the_entries(self):
        arrows = (("a", "b", 2), ("b", "a", -1), ("b", "c", 0))
        self.bad("way", 2, ABC, arrows, (0, 5, None), (None, (), (2, 2)))
        self.bad("arrow", -1, ABC, arrows, (0, 5, None), (None, None, None))
        self.bad("arrow", 0, ABC, arrows, (0, 5, None), ((), (), None))

    def test_roofs_of_ways_that_lead_away(self):
        # Each height is told by the roof where its way begins, not by that of its name.
        self.same(lets_ways(("a", "b"), (("b", "a", -9),), (100, -3), ((0,), ())), (-12, -3))
        self.bad("arrow", 0, ("a", "b"), (("b", "a", -9),), (100, -3), ((), ()))
