"""The least total of slack [51], and what follows [52]."""

from itertools import product

from samesamples.errors import InvalidPaper
from samesamples.slackcheckers import lets_slack
from samesamples.slacks import are_weighted, least_slack
from helpers import ANYTHING, Case, drawing
from rings import NAMES, all_rings, drawn_names, way_sum

AB = ("a", "b")
ARROWS = (("a", "b", 3, 1), ("b", "a", -1, 2))


def drawn_weighted(source, names, most=7, low=-3):
    if not names:
        return ()
    return tuple((source.choice(names), source.choice(names), source.randint(low, 6), source.choice((0, 0, 1, 2, 5)))
                 for _ in range(source.randint(0, most)))


def slacks(names, arrows, heights):
    by_name = dict(zip(names, heights))
    return [much + by_name[source] - by_name[name] for source, name, much, _ in arrows]


def least_by_search(names, arrows):
    """The least total, the first name at 0: heights need not go farther than all muchs together."""
    far = sum(abs(arrow[2]) for arrow in arrows)
    best = None
    for rest in product(range(-far, far + 1), repeat=max(0, len(names) - 1)):
        told = slacks(names, arrows, ((0,) + rest)[:len(names)])
        if all(slack >= 0 for slack in told):
            total = sum(slack * arrow[3] for slack, arrow in zip(told, arrows))
            best = total if best is None else min(best, total)
    return best


class Weighted(Case):
    def test_kinds(self):
        for arrows in ((), ARROWS, (("a", "a", 0, 0),) * 2, (("a", "b", -10 ** 6, 200),)):
            self.assertIs(are_weighted(AB, arrows), True)
        for arrows in ((("a", "b", 3),), (("a", "b", 3, 1, 1),), (("a", "b", 3, -1),), (("a", "b", True, 1),), (("a", "b", 3, True),),
                       (("a", "b", 3, None),), (("a", "c", 3, 1),), (("c", "a", 3, 1),), [("a", "b", 3, 1)], (["a", "b", 3, 1],),
                       (("a", "b", "3", 1),), None, "ab", (1,), (("a", 0, 3, 1),), (([], "b", 3, 1),)):
            self.assertIs(are_weighted(AB, arrows), False, arrows)
        for thing in ANYTHING:
            self.assertIs(are_weighted(names=AB, thing=thing), isinstance(thing, tuple) and thing == ())


class Slacks(Case):
    def checked(self, names, arrows):
        """What least_slack tells, looked at by its checker and by plain words."""
        told = least_slack(names, arrows)
        if told[0] == "ring":
            self.assertEqual(len(told), 2)
            self.assertIn(told[1], all_rings([arrow[:3] for arrow in arrows]))
            self.assertLess(way_sum(arrows, told[1]), 0)
            return None
        word, heights, flow, total = told
        self.same(word, "least")
        self.same(lets_slack(names, arrows, (heights, flow, total)), total)
        told = slacks(names, arrows, heights)
        self.same(total, sum(slack * arrow[3] for slack, arrow in zip(told, arrows)))
        self.same(total, sum((arrow[3] - much) * arrow[2] for arrow, much in zip(arrows, flow)))
        return total

    def test_drawn_questions_by_search(self):
        source = drawing(51)
        rings = 0
        for _ in range(80):
            names = drawn_names(source, 3)
            arrows = tuple((one, two, max(-2, min(2, much)), weight) for one, two, much, weight in drawn_weighted(source, names, 5))
            total = self.checked(names, arrows)
            self.same(total, least_by_search(names, arrows))
            rings += total is None
        self.assertTrue(5 < rings < 60, rings)

    def test_drawn_questions(self):
        source = drawing(52)
        least = 0
        for _ in range(300):
            names = drawn_names(source)
            arrows = drawn_weighted(source, names, 12, source.choice((-3, -1, 0)))
            total = self.checked(names, arrows)
            low = [ring for ring in all_rings([arrow[:3] for arrow in arrows]) if way_sum(arrows, ring) < 0]
            self.assertEqual(total is None, bool(low))
            if total is not None:
                least += 1
                for _ in range(10):
                    heights = tuple(source.randint(-9, 9) for _ in names)
                    told = slacks(names, arrows, heights)
                    if all(slack >= 0 for slack in told):
                        self.assertLessEqual(total, sum(slack * arrow[3] for slack, arrow in zip(told, arrows)))
        self.assertTrue(80 < least < 290, least)

    def test_edges(self):
        self.same(least_slack((), ()), ("least", (), (), 0))
        self.same(self.checked(("a", "b", "c"), ()), 0)
        self.same(self.checked(("a",), (("a", "a", 4, 3),)), 12)
        self.same(self.checked(("a",), (("a", "a", 0, 3), ("a", "a", 0, 0))), 0)
        self.same(least_slack(("a",), (("a", "a", -1, 0),)), ("ring", (0,)))
        self.same(self.checked(AB, (("a", "b", 5, 0), ("b", "a", -5, 7))), 0)
        self.same(self.checked(AB, (("a", "b", 5, 0), ("b", "a", -6, 7))), None)
        self.same(self.checked(AB, (("a", "b", 5, 0), ("b", "a", 5, 0))), 0)
        self.same(self.checked(AB, (("a", "b", 3, 1),) * 2), 0)
        self.same(self.checked(("", "a"), (("", "a", 10 ** 6, 100), ("a", "", -10 ** 6 + 1, 100))), 100)

    def test_many_names_and_weights(self):
        source = drawing(53)
        names = tuple(f"n{at:02}" for at in range(64))
        for _ in range(2):
            # Arrows that meet some heights have no ring below 0.
            heights = {name: source.randint(-50, 50) for name in names}
            arrows = []
            for at in range(200):
                one, two = source.choice(names), source.choice(names)
                arrows.append((one, two, heights[two] - heights[one] + source.randint(0, 60), 1))
            told = least_slack(names, tuple(arrows))
            self.same(lets_slack(names, tuple(arrows), told[1:]), told[3])
            bound = sum(slack for slack in slacks(names, arrows, [heights[name] for name in names]))
            self.assertLessEqual(told[3], bound)

    def test_any_heights_and_any_flow_that_fit(self):
        for shift in (-1000, 5, 0):
            self.same(lets_slack(AB, ARROWS, ((-1 + shift, shift), (0, 1), 2)), 2)
        level = (("a", "b", 0, 1), ("b", "a", 0, 1), ("a", "a", 0, 0))
        for flow in ((1, 1, 0), (0, 0, 0), (9, 9, 4)):
            self.same(lets_slack(AB, level, ((3, 3), flow, 0)), 0)

    def bad(self, word, at, thing, names=AB, arrows=ARROWS):
        self.raises(InvalidPaper, (word, at), lets_slack, names, arrows, thing)

    def test_each_entry(self):
        right = ((-1, 0), (0, 1), 2)
        self.same(lets_slack(names=AB, arrows=ARROWS, thing=right), 2)
        for thing in (None, (), right[:2], right + (0,), list(right), ("least",) + right, ((0,), (0, 1), 2), ((0, 0, 0), (0, 1), 2),
                      ([0, 0], (0, 1), 2), (None, (0, 1), 2), (right[0], (0,), 2), (right[0], (0, 1, 0), 2), (right[0], [0, 1], 2),
                      (right[0], None, 2), 3, "abc"):
            self.bad("shape", -1, thing)
        for at in range(2):
            for wrong in (None, True, False, "0", (0,)):
                self.bad("height", at, ((-1, 0)[:at] + (wrong,) + (-1, 0)[at + 1:], (0, 1), 2))
            for wrong in (None, True, False, -1, "0", (0,)):
                self.bad("flow", at, (right[0], (0, 1)[:at] + (wrong,) + (0, 1)[at + 1:], 2))
        self.bad("arrow", 0, ((-4, 0), (0, 1), 2))
        self.bad("arrow", 1, ((0, 0), (0, 1), 2))
        self.bad("round", 0, (right[0], (0, 0), 2))
        self.bad("round", 0, (right[0], (0, 2), 2))
        self.bad("round", 1, ((0, 0, 0), (1, 0), 0), names=("a", "b", "c"), arrows=(("a", "a", 0, 1), ("b", "c", 0, 1)))
        self.bad("slack", 0, (right[0], (1, 2), 2))
        self.bad("slack", 1, ((-2, 0), (0, 1), 3))
        for wrong in (1, 3, -2, None, True, "2", (2,)):
            self.bad("total", -1, (right[0], (0, 1), wrong))
        self.bad("total", -1, ((0,), (1,), False), names=("a",), arrows=(("a", "a", 0, 1),))

    def test_the_sequence_of_the_entries(self):
        self.bad("height", 1, ((-4, True), (None, None), None))
        self.bad("arrow", 1, ((7, 0), (-1, True), None))
        self.bad("flow", 1, ((-1, 0), (0, -1), None))
        self.bad("flow", 0, ((-1, 0), (True, 5), None))
        self.bad("round", 0, ((-2, 0), (9, 0), None))
        self.bad("slack", 1, ((-2, 0), (0, 1), None))

    def test_wrong_inputs(self):
        for thing in ANYTHING:
            if thing != ():
                self.refuses("arrows", least_slack, NAMES, thing)
                self.refuses("arrows", lets_slack, NAMES, thing, None)
        self.refuses("arrows", least_slack, AB, (("a", "b", 1),))
        self.refuses("arrows", lets_slack, AB, (("a", "b", 1, -1),), None)
        self.same(least_slack(names=("a",), arrows=()), ("least", (0,), (), 0))
