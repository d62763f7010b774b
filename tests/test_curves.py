"""Curves [17]."""

from fractions import Fraction
from math import floor

from samesamples.curves import curve_at, is_points
from helpers import ANYTHING, Case, drawing

TOP = 1048575


def plain_curve(points, pos):
    known = dict(points)
    if pos in known:
        return known[pos]
    if pos < points[0][0]:
        return points[0][1]
    if pos > points[-1][0]:
        return points[-1][1]
    (p, v) = max(pair for pair in points if pair[0] < pos)
    (q, w) = min(pair for pair in points if pair[0] > pos)
    return v + floor(Fraction((w - v) * (pos - p), q - p))


class Curves(Case):
    def test_points(self):
        self.only(is_points, (((0, 1),),))
        many = tuple((at, -at) for at in range(65))
        self.assertIs(is_points(many[:64]), True)
        self.assertIs(is_points(many), False)
        self.assertIs(is_points(((-TOP, TOP), (TOP, -TOP))), True)
        for points in (((0, 0), (0, 1)), ((1, 0), (0, 0)), ((0, 0, 0),), ((0,),), ((0, TOP + 1),), ((-TOP - 1, 0),),
                       ((False, 0),), ((0, True),), ([0, 0],), [(0, 0)], ((0, 0), None), (), ((0, 0), (1, "a"))):
            self.assertIs(is_points(points), False, repr(points))

    def test_below_at_between_above(self):
        points = ((-4, 3), (0, 0), (7, -10), (9, -10), (10, TOP))
        for pos in range(-10, 16):
            self.same(curve_at(points, pos), plain_curve(points, pos))
        self.same(curve_at(points, -10 ** 59), 3)
        self.same(curve_at(points, 10 ** 59), TOP)

    def test_one_pair_and_sixty_four(self):
        self.same([curve_at(((3, -8),), pos) for pos in (2, 3, 4)], [-8, -8, -8])
        source = drawing(17)
        for many in (1, 2, 3, 64):
            for _ in range(5):
                places = sorted(source.sample(range(-200, 200), many))
                points = tuple((place, source.randint(-TOP, TOP)) for place in places)
                for pos in range(-205, 206):
                    self.same(curve_at(points, pos), plain_curve(points, pos))

    def test_floors_go_down(self):
        self.same([curve_at(((0, 0), (4, -10)), pos) for pos in range(5)], [0, -3, -5, -8, -10])
        self.same([curve_at(((0, 0), (4, 10)), pos) for pos in range(5)], [0, 2, 5, 7, 10])

    def test_wrong_inputs(self):
        for thing in ANYTHING:
            if not isinstance(thing, int) or isinstance(thing, bool):
                self.refuses("pos", curve_at, ((0, 0),), thing)
        self.same(curve_at(pos=1, points=((0, 5),)), 5)
