"""Heights, the ways to them, rings below 0, least ways [44], [45], and what follows [47]."""

from samesamples.ringcheckers import lets_heights, lets_ring, lets_ways
from samesamples.ringsums import height_ways, least_ways, ring_sum
from helpers import ANYTHING, Case, drawing
from rings import NAMES, all_rings, drawn_arrows, drawn_names, drawn_roof, meets, plain_heights, reached, way_sum


class RingSums(Case):
    def both(self, names, arrows, roof):
        """What ring_sum and height_ways tell, looked at by the checkers."""
        word, told = ring_sum(names, arrows, roof)
        self.same(ring_sum(names, arrows, roof), (word, told))
        other, ways = height_ways(names, arrows, roof)
        if word == "ring":
            for ring in (told, ways):
                self.same(lets_ring(names, arrows, roof, ring), way_sum(arrows, ring))
            self.same(other, "ring")
        else:
            self.same((word, other), ("heights", "ways"))
            self.same(lets_heights(names, arrows, roof, told), len([one for one in told if one is not None]))
            self.same(lets_ways(names, arrows, roof, ways), told)
        return word, told

    def test_drawn_questions(self):
        source = drawing(44)
        words = {"heights": 0, "ring": 0}
        for _ in range(500):
            names = drawn_names(source)
            arrows = drawn_arrows(source, names)
            roof = drawn_roof(source, names)
            word, told = self.both(names, arrows, roof)
            words[word] += 1
            rooted = [name for name, top in zip(names, roof) if top is not None]
            behind = set().union(*[reached(arrows, name) for name in rooted])
            low = [ring for ring in all_rings(arrows) if way_sum(arrows, ring) < 0 and arrows[ring[0]][0] in behind]
            if word == "ring":
                self.assertIn(told, low)
            else:
                self.assertEqual(low, [])
                self.same(told, plain_heights(names, arrows, roof))
                self.assertTrue(meets(names, arrows, roof, told))
                # None of them can be any greater, and None stands just behind no rooted name.
                for at, height in enumerate(told):
                    self.assertEqual(height is not None, names[at] in behind)
                    if height is not None:
                        self.assertFalse(meets(names, arrows, roof, told[:at] + (height + 1,) + told[at + 1:]))
        self.assertTrue(min(words.values()) > 60, words)

    def test_edges(self):
        self.same(self.both((), (), ()), ("heights", ()))
        self.same(self.both(("",), (), (None,)), ("heights", (None,)))
        self.same(self.both(("", "a"), (), (-7, None)), ("heights", (-7, None)))
        self.same(self.both(("a",), (("a", "a", 0),), (4,)), ("heights", (4,)))
        self.same(self.both(("a",), (("a", "a", -1),), (None,)), ("heights", (None,)))
        self.same(self.both(("a",), (("a", "a", -1), ("a", "a", -1)), (5,))[0], "ring")
        self.same(self.both(("a", "b"), (("a", "b", 3), ("b", "a", -3)), (0, None)), ("heights", (0, 3)))
        self.same(self.both(("a", "b"), (("a", "b", 3), ("b", "a", -4)), (0, None)), ("ring", ring_sum(
            ("a", "b"), (("a", "b", 3), ("b", "a", -4)), (0, None))[1]))
        # A ring below 0 to which no way leads from a rooted name leaves heights.
        names = ("a", "b", "c")
        self.same(self.both(names, (("b", "b", -5), ("b", "a", 1)), (9, None, 2)), ("heights", (9, None, 2)))
        self.same(self.both(names, (("b", "b", -5), ("c", "b", 1)), (9, None, 2)), ("ring", (0,)))
        self.same(self.both(names, (("b", "c", 1), ("a", "b", 1)), (0, None, None)), ("heights", (0, 1, 2)))

    def test_sixty_four_names(self):
        names = tuple(f"n{at:02}" for at in range(64))
        # From the last name down: heights come one after another only.
        arrows = tuple((names[at + 1], names[at], -1) for at in range(63))
        roof = (None,) * 63 + (0,)
        self.same(self.both(names, arrows, roof), ("heights", tuple(range(-63, 1))))
        self.same(self.both(names, arrows + ((names[0], names[63], 63),), roof)[0], "heights")
        word, ring = self.both(names, arrows + ((names[0], names[63], 62),), roof)
        self.same((word, sorted(ring)), ("ring", list(range(64))))

    def test_least_ways(self):
        self.same(least_ways(("a",), (), "a"), (0,))
        self.same(least_ways(("", "a", "b"), (("", "b", 4), ("b", "", 0), ("", "b", 3)), ""), (0, None, 3))
        source = drawing(45)
        for _ in range(150):
            names = drawn_names(source) or ("a",)
            wires = drawn_arrows(source, names, 0, 5)
            for name in names:
                told = least_ways(names, wires, name)
                roof = tuple(0 if one == name else None for one in names)
                self.same(told, plain_heights(names, wires, roof))
                self.same(("heights", told), ring_sum(names, wires, roof))

    def test_wrong_inputs(self):
        for thing in ANYTHING:
            for function in (ring_sum, height_ways):
                if thing != ():
                    self.refuses("arrows", function, NAMES, thing, None)
                self.refuses("roof", function, NAMES, (), thing)
            if thing != ():
                self.refuses("wires", least_ways, NAMES, thing, None)
            if thing not in ("", "a"):
                self.refuses("name", least_ways, NAMES, (), thing)
        self.refuses("arrows", ring_sum, NAMES, (("a", "b", True),), (None,) * 5)
        self.refuses("wires", least_ways, NAMES, (("a", "b", -1),), "a")
        self.refuses("name", least_ways, NAMES, (), "e")
        self.refuses("name", least_ways, (), (), "")
        self.refuses("roof", height_ways, NAMES, (("a", "b", 1),), (None,) * 4 + (False,))
        self.same(ring_sum(names=("a",), arrows=(), roof=(1,)), ("heights", (1,)))
        self.same(height_ways(names=("a",), arrows=(), roof=(1,)), ("ways", ((),)))
        self.same(least_ways(names=("a",), wires=(), name="a"), (0,))
