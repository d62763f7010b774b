"""Orders, partings and buffers [48], [49], [50], and what follows [52]."""

from itertools import permutations

from samesamples.buffercheckers import lets_buffer
from samesamples.buffers import greatest_buffer
from samesamples.errors import InvalidPaper
from samesamples.orders import order_of, wires_round
from samesamples.partings import is_parted, parting_of
from samesamples.steps import one_step
from helpers import ANYTHING, Case, drawing
from rings import NAMES, all_rings, drawn_arrows, drawn_names

ONE = 4096


def plain_order(names, wires):
    """The names taken one by one, as the document tells it; fewer than all if some cannot be taken."""
    order = []
    while True:
        free = [name for name in names if name not in order
                and all(source in order for source, one, delay in wires if one == name and delay == 0)]
        if not free:
            return tuple(order)
        order.append(min(free))


def rings_up_to(wires, most):
    return [ring for ring in all_rings(wires) if max(wires[place][2] for place in ring) <= most]


class Orders(Case):
    def test_drawn_questions(self):
        source = drawing(48)
        told = {"order": 0, "ring": 0}
        for _ in range(400):
            names = drawn_names(source)
            wires = drawn_arrows(source, names, 0, source.choice((1, 3)), 7)
            word, thing = order_of(names, wires)
            told[word] += 1
            rings = rings_up_to(wires, 0)
            if rings:
                self.assertEqual(word, "ring")
                self.assertIn(thing, rings)
            else:
                self.same((word, thing), ("order", plain_order(names, wires)))
            for most in range(5):
                self.assertIs(wires_round(names, wires, most), bool(rings_up_to(wires, most)))
        self.assertTrue(min(told.values()) > 60, told)

    def test_edges(self):
        self.same(order_of((), ()), ("order", ()))
        self.same(order_of(("a",), (("a", "a", 0),)), ("ring", (0,)))
        self.same(order_of(("a",), (("a", "a", 1),)), ("order", ("a",)))
        # The least name comes first, as soon as it can be taken.
        self.same(order_of(("a", "b", "c", "d"), (("d", "a", 0), ("d", "a", 0))), ("order", ("b", "c", "d", "a")))
        self.same(order_of(("", "a", "b"), (("b", "", 0),)), ("order", ("a", "b", "")))
        self.same(order_of(("a", "b", "c"), (("b", "a", 0), ("c", "b", 9))), ("order", ("b", "a", "c")))
        # Names behind a ring stand on none.
        word, ring = order_of(("a", "b", "c"), (("b", "a", 0), ("b", "c", 0), ("c", "b", 0)))
        self.same((word, sorted(ring)), ("ring", [1, 2]))
        self.same(wires_round((), (), 0), False)
        self.same(wires_round(("a",), (("a", "a", 7),), 6), False)
        self.same(wires_round(("a",), (("a", "a", 7),), 7), True)

    def test_sixty_four_names(self):
        names = tuple(f"n{at:02}" for at in range(64))
        wires = tuple((names[at + 1], names[at], 0) for at in range(63))
        self.same(order_of(names, wires), ("order", names[::-1]))
        word, ring = order_of(names, wires + ((names[0], names[63], 0),))
        self.same((word, sorted(ring)), ("ring", list(range(64))))

    def test_wrong_inputs(self):
        for thing in ANYTHING:
            if thing != ():
                self.refuses("wires", order_of, NAMES, thing)
                self.refuses("wires", wires_round, NAMES, thing, None)
            if isinstance(thing, bool) or not isinstance(thing, int) or thing < 0:
                self.refuses("most", wires_round, NAMES, (), thing)
        self.refuses("wires", order_of, NAMES, (("a", "b", -1),))
        self.same(wires_round(names=("a",), wires=(("a", "a", 0),), most=0), True)
        self.same(order_of(names=("a",), wires=()), ("order", ("a",)))


class Partings(Case):
    def test_drawn_questions(self):
        source = drawing(49)
        parted = 0
        for _ in range(300):
            names = drawn_names(source, 4)
            wires = drawn_arrows(source, names, 0, 1, 7)
            told = parting_of(names, wires)
            self.assertEqual(told is None, order_of(names, wires)[0] == "order")
            self.assertIs(is_parted(names, wires, told), told is not None)
            self.assertIs(is_parted(names, wires, None), False)
            rings = rings_up_to(wires, 0)
            for ring in rings:
                parted += 1
                self.assertIs(is_parted(names, wires, (ring, *self.knobs(names, wires, ring))), True)
            if told is not None:
                self.assertIn(told[0], rings)
                self.same(told[1:], self.knobs(names, wires, told[0]))
        self.assertTrue(parted > 100)

    def knobs(self, names, wires, ring):
        """The two fillings, by the document's words."""
        least = min(wires[place][1] for place in ring)
        filling, other = [], []
        for name in names:
            places = [place for place, wire in enumerate(wires) if wire[1] == name]
            filling.append((tuple(ONE if place in ring else 0 for place in places), 0))
            sign = -ONE if name == least else ONE
            other.append((tuple(sign if place in ring else 0 for place in places), 1 if name == least else 0))
        return tuple(filling), tuple(other)

    def test_two_tables_fit_the_one_and_none_the_other(self):
        # [11] (G4): around the ring, each worth handed on as it is, any worth fits; or none does, if one turns it round.
        names, wires = ("a", "b"), (("b", "a", 0), ("a", "b", 0), ("b", "b", 1))
        ring, filling, other = parting_of(names, wires)
        self.same(sorted(ring), [0, 1])

        def fits(knobs, worths):
            told = [one_step("mix", knobs[0], 0, (worths[1],))[1], one_step("mix", knobs[1], 0, (worths[0], 0))[1]]
            return told == worths

        self.assertTrue(fits(filling, [5, 5]) and fits(filling, [-7, -7]))
        self.assertFalse(any(fits(other, [one, two]) for one in range(-6, 7) for two in range(-6, 7)))

    def test_papers_that_do_not_fit(self):
        names, wires = ("a", "b"), (("b", "a", 0), ("a", "b", 0), ("b", "b", 1), ("b", "b", 0))
        paper = parting_of(names, wires)
        right = ((0, 1), (((ONE,), 0), ((ONE, 0, 0), 0)), (((-ONE,), 1), ((ONE, 0, 0), 0)))
        self.assertIs(is_parted(names, wires, right), True)
        self.assertIs(is_parted(names, wires, ((1, 0),) + right[1:]), True)
        self.assertIs(is_parted(names, wires, paper), True)
        self.assertIs(is_parted(names, wires, ((3,), (((0,), 0), ((0, 0, ONE), 0)), (((0,), 0), ((0, 0, -ONE), 1)))), True)
        for wrong in (
            right[:2], right + (0,), list(right), (), None, 0, ((0,),) + right[1:], ((),) + right[1:], ((2,),) + right[1:],
            ((0, 1, 0, 1),) + right[1:], ([0, 1],) + right[1:], ((0, True),) + right[1:], ((False, 1),) + right[1:],
            (right[0], right[2], right[1]), (right[0], right[1], right[1]), (right[0], list(right[1]), right[2]),
            (right[0], (((ONE,), False), ((ONE, 0, 0), 0)), right[2]), (right[0], right[1], (((-ONE,), True), ((ONE, 0, 0), 0))),
            (right[0], (((ONE,), 0), ([ONE, 0, 0], 0)), right[2]), (right[0], (((ONE,), 0), ((ONE, 0, 1), 0)), right[2]),
            (right[0], right[1], (((ONE,), 0), ((-ONE, 0, 0), 1))), (right[0], right[1], (((-ONE,), 0), ((ONE, 0, 0), 0))),
            (right[0], right[1], (((-ONE,), 1), ((ONE, 0, 0), 0), ((), 0))), ((0, 5),) + right[1:],
            ((2,), (((0,), 0), ((0, ONE, 0), 0)), (((0,), 0), ((0, -ONE, 0), 1))),
        ):
            self.assertIs(is_parted(names, wires, wrong), False, wrong)
        for thing in ANYTHING:
            self.assertIs(is_parted(names, wires, thing), False)

    def test_no_more_than_eight_wires(self):
        wires = (("a", "b", 1),) * 8
        self.same(parting_of(("a", "b"), wires), None)
        self.same(is_parted(("a", "b"), wires, None), False)
        for many in (wires + (("a", "b", 5),), wires + (("b", "b", 0),)):
            self.refuses("wires", parting_of, ("a", "b"), many)
            self.refuses("wires", is_parted, ("a", "b"), many, None)
        self.same(parting_of(("a", "b"), wires + (("b", "a", 0),)), None)
        for thing in ANYTHING:
            if thing != ():
                self.refuses("wires", parting_of, NAMES, thing)
                self.refuses("wires", is_parted, NAMES, thing, None)
        self.same(parting_of(names=(), wires=()), None)
        self.same(is_parted(names=(), wires=(), thing=()), False)


class Buffers(Case):
    def accepts(self, names, wires, thing):
        try:
            told = lets_buffer(names, wires, thing)
        except InvalidPaper:
            return False
        self.same(told, thing[0])
        return True

    def test_drawn_questions(self):
        source = drawing(50)
        without = 0
        for _ in range(300):
            names = drawn_names(source, 4)
            wires = drawn_arrows(source, names, 0, 5, 6)
            greatest, order, ring = greatest_buffer(names, wires)
            bounds = [max(wires[place][2] for place in one) for one in all_rings(wires)]
            self.same(greatest, min(bounds, default=None))
            self.assertTrue(self.accepts(names, wires, (greatest, order, ring)))
            without += greatest is None
            for most in range(7):
                self.assertIs(wires_round(names, wires, most), greatest is not None and most >= greatest)
            self.assertEqual(greatest == 0, order_of(names, wires)[0] == "ring")
            self.assertEqual(greatest == 0, parting_of(names, wires) is not None)
            # All papers with any order and any ring: just those that fit are accepted.
            for one in permutations(names):
                short = [wire for wire in wires if greatest is None or wire[2] < greatest]
                fits = all(one.index(wire[0]) < one.index(wire[1]) for wire in short)
                self.assertIs(self.accepts(names, wires, (greatest, one, ring)), fits)
            for one in all_rings(wires):
                fits = max(wires[place][2] for place in one) <= (-1 if greatest is None else greatest)
                self.assertIs(self.accepts(names, wires, (greatest, order, one)), fits)
            for other in [None] + list(range(7)):
                if other != greatest:
                    self.assertFalse(self.accepts(names, wires, (other, order, ring)))
        self.assertTrue(20 < without < 280)

    def test_edges(self):
        self.same(greatest_buffer((), ()), (None, (), None))
        self.same(greatest_buffer(("a",), (("a", "a", 0),)), (0, ("a",), (0,)))
        self.same(greatest_buffer(("a", "b"), (("b", "a", 10 ** 6),)), (None, ("b", "a"), None))
        self.same(greatest_buffer(names=("a",), wires=(("a", "a", 3), ("a", "a", 2))), (2, ("a",), (1,)))
        # A wire that is just as long as the greatest one on the ring is not short.
        self.same(greatest_buffer(("a", "b"), (("a", "b", 2), ("b", "a", 2)))[0], 2)

    def bad(self, word, at, thing, wires=(("b", "a", 1), ("a", "a", 4), ("b", "b", 6))):
        self.raises(InvalidPaper, (word, at), lets_buffer, ("a", "b"), wires, thing)

    def test_each_entry(self):
        right = (4, ("b", "a"), (1,))
        wires = (("b", "a", 1), ("a", "a", 4), ("b", "b", 6))
        self.same(lets_buffer(names=("a", "b"), wires=wires, thing=right), 4)
        for thing in (None, (), right[:2], right + (0,), list(right), 4, "abc"):
            self.bad("shape", -1, thing)
        for wrong in (-1, True, False, "4", (4,), [4]):
            self.bad("greatest", -1, (wrong,) + right[1:])
            self.bad("greatest", -1, (wrong, None, None))
        for wrong in (None, (), ("a",), ("a", "a"), ("b", "a", "b"), ["b", "a"], ("b", 1), (["b"], "a"), ("b", "c"), "ba", (None, "a")):
            self.bad("order", -1, (4, wrong, (1,)))
            self.bad("order", -1, (4, wrong, None))
        self.bad("wire", 0, (4, ("a", "b"), (1,)))
        self.bad("wire", 0, (None, ("a", "b"), None))
        self.bad("wire", 1, (None, ("b", "a"), None))
        self.bad("wire", 1, (5, ("b", "a"), (1,)))
        self.bad("wire", 2, (7, ("b", "a"), (1,)), wires=(("b", "a", 1), ("a", "a", 7), ("b", "b", 6)))
        for wrong in (None, (), (0,), (2,), [1], (True,), (1, 1), (3,), (-1,), ("1",), 1):
            self.bad("ring", -1, (4, ("b", "a"), wrong))
        self.bad("ring", -1, (3, ("b", "a"), (1,)))
        self.bad("ring", -1, (None, ("b", "a"), ()), wires=(("b", "a", 1),))
        self.bad("ring", -1, (None, ("b", "a"), (0,)), wires=(("b", "a", 1),))
        self.bad("ring", -1, (0, ("b", "a"), None), wires=(("b", "a", 1),))

    def test_wrong_inputs(self):
        for thing in ANYTHING:
            if thing != ():
                self.refuses("wires", greatest_buffer, NAMES, thing)
                self.refuses("wires", lets_buffer, NAMES, thing, None)
        self.refuses("wires", greatest_buffer, NAMES, (("a", "b", -1),))
