"""Lags, lines, and the lags with which they hold least [93] to [96], and (G10) of [11]."""

from itertools import product

from samesamples.errors import InvalidPaper
from samesamples.lags import are_lags, least_lags
from samesamples.linequestions import least_lines, lets_lines, line_question
from samesamples.lines import line_lengths, total_held
from samesamples.slacks import least_slack
from engines import not_numbers
from helpers import ANYTHING, Case, drawing

AB = ("a", "b")
ROUND = (("a", "b", 0), ("b", "a", 3))
LATE = (("a", 1), ("b", 2))


def plain_pads(names, wires, late, lags):
    lates, told = dict(late), dict(zip(names, lags))
    return [delay + told[name] - lates.get(name, 0) - told[source] for source, name, delay in wires]


def is_let(names, wires, late, lags):
    lates = dict(late)
    return all(lag >= lates.get(name, 0) for name, lag in zip(names, lags)) and min(plain_pads(names, wires, late, lags), default=0) >= 0


def plain_total(names, wires, feeds, late, lags):
    lates, told, held = dict(late), dict(zip(names, lags)), {}
    for (source, _, _), pad in zip(wires, plain_pads(names, wires, late, lags)):
        held[source] = max(held.get(source, 0), pad)
    for name, channel in feeds:
        held[channel] = max(held.get(channel, 0), told[name] - lates.get(name, 0))
    return sum(held.values())


def drawn_wires(source, names, most, longest):
    return tuple((source.choice(names), source.choice(names), source.randint(0, longest)) for _ in range(source.randint(0, most))) if names else ()


def drawn_late(source, names, latest):
    return tuple((name, source.randint(1, latest)) for name in names if source.random() < 0.5)


class Lags(Case):
    def fits(self, names, wires, late, ring):
        """The ring is one of wires whose delays add up to less than its names' latenesses."""
        self.assertTrue(ring)
        for place, later in zip(ring, ring[1:] + ring[:1]):
            self.assertEqual(wires[place][1], wires[later][0])
        self.assertEqual(len({wires[place][0] for place in ring}), len(ring))
        self.assertLess(sum(wires[place][2] for place in ring), sum(dict(late).get(wires[place][1], 0) for place in ring))

    def test_no_names_and_no_wires(self):
        self.same(least_lags((), (), ()), ("lags", ()))
        self.same(least_lags(AB, (), ()), ("lags", (0, 0)))
        self.same(least_lags(names=AB, wires=(), late=(("b", 255),)), ("lags", (0, 255)))
        self.same((are_lags((), (), (), ()), are_lags((), (), (), (0,)), are_lags(names=AB, wires=(), late=(), thing=(0, 7))), (True, False, True))

    def test_rings_whose_delays_are_just_their_latenesses(self):
        self.same(least_lags(AB, ROUND, LATE), ("lags", (1, 3)))
        self.same(least_lags(AB, (("a", "b", 0), ("b", "a", 2)), LATE)[0], "ring")
        self.same(least_lags(AB, (("a", "b", 1), ("b", "a", 2)), LATE), ("lags", (1, 2)))
        # A wire from a name to itself, and equal wires twice.
        self.same(least_lags(AB, (("b", "b", 2), ("b", "b", 2)), LATE), ("lags", (1, 2)))
        self.same(least_lags(AB, (("b", "b", 2), ("b", "b", 1)), LATE), ("ring", (1,)))
        self.same(least_lags(AB, (("b", "b", 254),), (("b", 255),)), ("ring", (0,)))
        self.same(least_lags(AB, (("b", "b", 255),), (("b", 255),)), ("lags", (0, 255)))
        for ring in (least_lags(AB, (("a", "b", 0), ("b", "a", 2)), LATE)[1],):
            self.fits(AB, (("a", "b", 0), ("b", "a", 2)), LATE, ring)

    def test_let_and_not_let_by_one(self):
        wires = (("a", "b", 1), ("b", "c", 4), ("c", "a", 9))
        late = (("a", 2), ("c", 3))
        self.same(least_lags(("a", "b", "c"), wires, late), ("lags", (2, 1, 3)))
        told = [lags for lags in product(range(6), repeat=3) if are_lags(("a", "b", "c"), wires, late, lags)]
        self.assertEqual(told, [lags for lags in product(range(6), repeat=3) if is_let(("a", "b", "c"), wires, late, lags)])
        self.assertEqual(tuple(min(row) for row in zip(*told)), (2, 1, 3))
        for lags, let in (((2, 1, 3), True), ((1, 1, 3), False), ((2, 0, 3), False), ((2, 1, 2), False), ((3, 1, 3), False), ((3, 2, 3), True),
                          ((2, 2, 3), True), ((2, 5, 3), False), ((2, 4, 3), True), ((2, 1, 10 ** 7), False)):
            self.assertIs(are_lags(("a", "b", "c"), wires, late, lags), let)
        self.same(are_lags(("a",), (), (), (10 ** 59,)), True)

    def test_drawn(self):
        source = drawing(94)
        seen = set()
        for _ in range(250):
            names = tuple("abcd"[:source.randint(0, 4)])
            wires, late = drawn_wires(source, names, 6, 4), drawn_late(source, names, 3)
            word, told = least_lags(names, wires, late)
            seen.add(word)
            let = [lags for lags in product(range(8), repeat=len(names)) if is_let(names, wires, late, lags)]
            if word == "ring":
                self.fits(names, wires, late, told)
                self.assertEqual(let, [])
            else:
                self.assertIs(are_lags(names, wires, late, told), True)
                if max(told, default=0) < 8:
                    self.assertEqual(told, tuple(min(row) for row in zip(*let)) if names else ())
            for lags in [tuple(source.randint(0, 7) for _ in names) for _ in range(5)]:
                self.assertIs(are_lags(names, wires, late, lags), is_let(names, wires, late, lags))
        self.assertEqual(seen, {"lags", "ring"})

    def test_wrong_inputs(self):
        for thing in ANYTHING:
            self.same(are_lags(("a",), (), (), thing), any(thing == (lag,) and thing[0] is not True for lag in (0, 1)))
            if thing != ():
                for function, more in ((least_lags, ()), (are_lags, (None,))):
                    self.refuses("wires", function, AB, thing, None, *more)
                    self.refuses("late", function, AB, (), thing, *more)
        for lags in ((True, 0), [0, 0], (0,), (0, 0, 0), (0, -1), (0, None), ("0", 0), None):
            self.assertIs(are_lags(AB, (), (), lags), False)
        for wires in ((("a", "c", 0),), (("a", "b", -1),), (("a", "b", True),), (["a", "b", 0],), (("a", "b"),), [("a", "b", 0)]):
            self.refuses("wires", least_lags, AB, wires, None)
        for late in ((("a", 0),), (("a", 256),), (("a", True),), (("c", 1),), (("b", 1), ("a", 1)), (("a", 1), ("a", 2)), (["a", 1],), [("a", 1)], (("a",),), (("a", 1, 1),)):
            self.refuses("late", least_lags, AB, (), late)
            self.refuses("late", are_lags, AB, (), late, (9, 9))


class Lines(Case):
    def test_lengths(self):
        names, wires = ("a", "b", "c"), (("a", "b", 2), ("a", "c", 0), ("b", "c", 5), ("a", "b", 2))
        late, feeds = (("a", 1), ("c", 2)), (("a", 0), ("a", 3), ("b", 0))
        # The pads are 2 + 3 - 0 - 1, 0 + 4 - 2 - 1, 5 + 4 - 2 - 3, and the first one again.
        self.same(line_lengths(names, wires, feeds, late, (1, 3, 4)), ((("a", 4), ("b", 4)), ((0, 3), (3, 0))))
        self.same(total_held(names=names, wires=wires, feeds=feeds, late=late, lags=(1, 3, 4)), 11)
        self.same(line_lengths(names, (), (), late, (1, 3, 4)), ((), ()))
        self.same(total_held(names, (), (), late, (1, 3, 4)), 0)
        # Pads of 0.
        self.same(line_lengths(("a", "b"), (("a", "b", 0),), (("b", 2),), (("b", 3),), (0, 3)), ((("a", 0),), ((2, 0),)))
        self.same(line_lengths(("a",), (("a", "a", 3),), (), (("a", 3),), (9,)), ((("a", 0),), ()))

    def test_drawn(self):
        source = drawing(95)
        for _ in range(150):
            names = tuple("abcd"[:source.randint(1, 4)])
            wires, late = drawn_wires(source, names, 6, 6), drawn_late(source, names, 2)
            feeds = tuple(sorted({(source.choice(names), source.randint(0, 3)) for _ in range(source.randint(0, 4))}))
            for _ in range(12):
                lags = tuple(source.randint(0, 6) for _ in names)
                if is_let(names, wires, late, lags):
                    told = line_lengths(names, wires, feeds, late, lags)
                    total = plain_total(names, wires, feeds, late, lags)
                    self.same(total_held(names, wires, feeds, late, lags), total)
                    self.assertEqual(sum(length for pairs in told for _, length in pairs), total)
                    self.assertEqual([[key for key, _ in pairs] for pairs in told], [sorted({wire[0] for wire in wires}), sorted({channel for _, channel in feeds})])
                else:
                    self.refuses("lags", line_lengths, names, wires, feeds, late, lags)

    def test_wrong_inputs(self):
        for function in (line_lengths, total_held):
            for thing in ANYTHING:
                if thing != ():
                    self.refuses("wires", function, AB, thing, None, None, None)
                    self.refuses("feeds", function, AB, (), thing, None, None)
                    self.refuses("late", function, AB, (), (), thing, None)
                if thing not in ((0, 1), (1, 2), (2, 4), (1, 0)):
                    self.refuses("lags", function, AB, (), (), (), thing)
            for feeds in ((("a", 4),), (("a", True),), (("c", 0),), (("b", 0), ("a", 0)), (("a", 0), ("a", 0)), [("a", 0)], (["a", 0],), (("a", -1),)):
                self.refuses("feeds", function, AB, (), feeds, None, None)
            self.refuses("lags", function, AB, ROUND, (), LATE, (1, 2))
            self.refuses("lags", function, AB, (), (), LATE, (0, 2))


class Questions(Case):
    NAMES = ("a", "b", "f")
    WIRES = (("f", "b", 2), ("a", "b", 1), ("f", "a", 0), ("b", "b", 7))
    FEEDS = (("a", 3), ("f", 0), ("f", 3))
    QUESTION = NAMES, WIRES, FEEDS, (("b", 2),), ("b", "a"), 5

    def test_sequence(self):
        names, arrows = line_question(*self.QUESTION)
        self.same(names, ("+end a", "+end b", "+end f", "+hub", "+in 0", "+in 3", "a", "b", "f"))
        self.same(arrows, (
            ("+hub", "a", 0, 0), ("+hub", "b", -2, 0), ("+hub", "f", 0, 0),
            ("+hub", "b", -5, 0), ("b", "+hub", 5, 0), ("+hub", "a", -5, 0), ("a", "+hub", 5, 0),
            ("f", "b", 0, 0), ("b", "+end f", 0, 0), ("a", "b", -1, 0), ("b", "+end a", 1, 0),
            ("f", "a", 0, 0), ("a", "+end f", 0, 0), ("b", "b", 5, 0), ("b", "+end b", -5, 0),
            ("a", "+end a", 0, 1), ("b", "+end b", 0, 1), ("f", "+end f", 0, 1),
            ("+hub", "+in 0", 0, 1), ("f", "+in 0", 0, 0), ("+hub", "+in 3", 0, 1), ("a", "+in 3", 0, 0), ("f", "+in 3", 0, 0),
        ))
        self.same(line_question(names=("a",), wires=(), feeds=(), late=(), ears=("a",), lag=0),
                  (("+hub", "a"), (("+hub", "a", 0, 0), ("+hub", "a", 0, 0), ("a", "+hub", 0, 0))))

    def test_lag_too_little_just_enough_and_more(self):
        names, wires, late = ("a", "b"), (("a", "b", 1),), (("a", 2), ("b", 3))
        question = names, wires, (("a", 0),), late, ("b",)
        for lag in (0, 3):
            self.ring(question + (lag,))
        told = least_lines(*question, 4)
        self.same(told[:2] + told[3:], ("lines", (2, 4), 0))
        self.same(lets_lines(*question, 4, told[1:]), 0)
        told = least_lines(*question, lag=9)
        self.same((told[0], told[3], lets_lines(*question, 9, told[1:])), ("lines", 5, 5))

    def ring(self, question):
        word, ring = least_lines(*question)
        _, arrows = line_question(*question)
        self.assertEqual(word, "ring")
        self.assertLess(sum(arrows[place][2] for place in ring), 0)
        for place, later in zip(ring, ring[1:] + ring[:1]):
            self.assertEqual(arrows[place][1], arrows[later][0])

    def test_ears_that_are_not_enough_apart(self):
        # The way from ear to ear must have delays of at least the latenesses of the names that it enters.
        for delay, word in ((4, "ring"), (5, "lines"), (6, "lines")):
            question = ("a", "b", "c"), (("a", "b", 1), ("b", "c", delay - 1)), (), (("b", 2), ("c", 3)), ("a", "c"), 8
            self.same(least_lines(*question)[0], word)
            if word == "ring":
                self.ring(question)

    def test_beside_a_search_over_all_small_lags(self):
        source = drawing(96)
        seen = {"lines": 0, "ring": 0}
        for _ in range(120):
            names = tuple("abcd"[:source.randint(1, 4)])
            wires, late = drawn_wires(source, names, 5, 3), drawn_late(source, names, 2)
            feeds = tuple(sorted({(source.choice(names), source.randint(0, 2)) for _ in range(source.randint(0, 3))}))
            ears = tuple(source.sample(names, source.randint(1, min(2, len(names)))))
            lag = source.randint(0, 4)
            question = names, wires, feeds, late, ears, lag
            # Without any ear among the ways lags need not be greater than a few latenesses above the told one.
            let = [lags for lags in product(range(11), repeat=len(names)) if is_let(names, wires, late, lags)
                   and all(dict(zip(names, lags))[ear] == lag for ear in ears)]
            told = least_lines(*question)
            seen[told[0]] += 1
            self.same(told[0], "lines" if let else "ring")
            if told[0] == "ring":
                self.ring(question)
                continue
            _, lags, flow, total = told
            self.assertEqual(total, min(plain_total(names, wires, feeds, late, lags) for lags in let))
            self.assertIn(lags, let)
            self.same(lets_lines(*question, (lags, flow, total)), total)
            self.check_papers(question, lags, flow, total, let)
        self.assertTrue(min(seen.values()) > 20, seen)

    def check_papers(self, question, lags, flow, total, let):
        """Any lags with the least total are let with the flow; others are not."""
        names, wires, feeds, late, _, _ = question
        for other in let[:40]:
            held = plain_total(names, wires, feeds, late, other)
            if held == total:
                self.same(lets_lines(*question, (other, flow, total)), total)
            else:
                self.raises(InvalidPaper, ("flow", -1), lets_lines, *question, (other, flow, held))

    def test_when_lags_with_one_told_lag_exist(self):
        """[11] (G10): just if lags exist, the lag is at least each ear's least, and ways from ear to ear are slow enough."""
        source = drawing(110)
        seen = {"lines": 0, "ring": 0}
        for _ in range(300):
            names = tuple("abcde"[:source.randint(1, 5)])
            wires, late = drawn_wires(source, names, 6, 4), drawn_late(source, names, 2)
            ears = tuple(source.sample(names, source.randint(1, min(3, len(names)))))
            lag = source.randint(0, 6)
            lates, word, told = dict(late), *least_lags(names, wires, late)
            exist = word == "lags"
            if exist:
                ways = {(one, one): 0 for one in names}
                for _ in names:
                    for start, _ in list(ways):
                        for name, later, delay in wires:
                            if (start, name) in ways:
                                way = ways[start, name] + delay - lates.get(later, 0)
                                ways[start, later] = min(way, ways.get((start, later), way))
                exist = all(lag >= dict(zip(names, told))[ear] for ear in ears)
                exist = exist and all(ways.get((one, other), 0) >= 0 for one in ears for other in ears)
            answer = least_lines(names, wires, (), late, ears, lag)[0]
            self.same(answer, "lines" if exist else "ring")
            seen[answer] += 1
        self.assertTrue(min(seen.values()) > 60, seen)

    def test_entries_in_their_sequence(self):
        question = self.NAMES, self.WIRES, self.FEEDS, (("b", 2),), ("b",), 5
        _, lags, flow, total = least_lines(*question)
        self.same(lets_lines(*question, thing=(lags, flow, total)), total)
        for thing in ANYTHING + ((lags, flow), (lags, flow, total, 0), [lags, flow, total]):
            if not isinstance(thing, tuple) or len(thing) != 3:
                self.raises(InvalidPaper, ("shape", -1), lets_lines, *question, thing)
        bent = (lags[0] + 1000,) + lags[1:]
        for thing in (None, list(lags), lags[1:], lags + (0,), (True,) + lags[1:], bent, tuple(lag + 1 for lag in lags), (0, 1, 0)):
            self.raises(InvalidPaper, ("lags", -1), lets_lines, *question, (thing, None, None))
        more = (flow[0] + 1,) + flow[1:]
        for thing in (None, list(flow), flow[1:], flow + (0,), (True,) + flow[1:], more, (-1,) + flow[1:], (0,) * len(flow), (None,) * len(flow)):
            self.raises(InvalidPaper, ("flow", -1), lets_lines, *question, (lags, thing, None))
        for thing in (None, total + 1, total - 1, -total - 1, str(total), (total,), total == 0):
            self.raises(InvalidPaper, ("total", -1), lets_lines, *question, (lags, flow, thing))

    def test_total_is_no_bool(self):
        question = ("a",), (("a", "a", 1),), (), (), ("a",), 0
        told = least_lines(*question)
        self.same(told[3], 1)
        self.raises(InvalidPaper, ("total", -1), lets_lines, *question, told[1:3] + (True,))

    def test_the_paper_is_that_of_slack(self):
        names, arrows = line_question(*self.QUESTION[:4], ("b",), 5)
        told = least_slack(names, arrows)
        self.same(told[3], least_lines(*self.QUESTION[:4], ("b",), 5)[3])

    def test_wrong_inputs(self):
        for function, more in ((line_question, ()), (least_lines, ()), (lets_lines, (None,))):
            for thing in ANYTHING:
                if thing != ():
                    self.refuses("wires", function, AB, thing, None, None, None, None, *more)
                    self.refuses("feeds", function, AB, (), thing, None, None, None, *more)
                    self.refuses("late", function, AB, (), (), thing, None, None, *more)
                self.refuses("ears", function, AB, (), (), (), thing, None, *more)
            for ears in ((), ("a", "a"), ("c",), ["a"], ("a", 1), "a"):
                self.refuses("ears", function, AB, (), (), (), ears, None, *more)
            for thing in not_numbers(0, 1, 7, 10 ** 60 - 1):
                self.refuses("lag", function, AB, (), (), (), ("a",), thing, *more)
            self.refuses("lag", function, AB, (), (), (), ("a",), -1, *more)
