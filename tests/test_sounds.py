"""Sounds [99] to [102], and (G12), (G13) of [11]."""

from fractions import Fraction
from itertools import product
from math import floor, gcd

from samesamples.curves import curve_at
from samesamples.errors import BadText
from samesamples.kinds import LAST, TOP
from samesamples.resampling import Resampler, resampled, steady
from samesamples.soundparts import cut, faded, joined, mixed, turned_back
from samesamples.soundtexts import read_sound, show_sound
from samesamples.spreads import kept_each, spread
from engines import not_numbers
from helpers import ANYTHING, Case, drawing, same

NO_SOUNDS = (None, 5, [1], (True,), (TOP + 1,), (-TOP - 1,), ((1,),), "1", (None,), (1, [2]))


def drawn_sound(source, most=12, high=TOP):
    return tuple(source.choice((0, 1, high, -high, source.randint(-high, high))) for _ in range(source.randint(0, most)))


def near(value, many):
    return floor(Fraction(value, many) + Fraction(1, 2))


def middle(value):
    return sorted((-TOP, value, TOP))[1]


class Parts(Case):
    def test_cut(self):
        self.same((cut((5, 6, 7), 0, 3), cut(sound=(5, 6, 7), low=1, high=2), cut((5, 6, 7), 3, 3), cut((), 0, 0)), ((5, 6, 7), (6,), (), ()))
        for low, high in product(range(5), repeat=2):
            if low <= high <= 3:
                self.same(cut((5, 6, 7), low, high), (5, 6, 7)[low:high])
            else:
                self.refuses("high", cut, (5, 6, 7), low, high)

    def test_joined(self):
        self.same((joined(()), joined(((),)), joined(sounds=((5,), (), (6, 7), (TOP,)))), ((), (), (5, 6, 7, TOP)))
        self.same(len(joined(((1,) * 4000,) * 64)), 256000)

    def test_mixed(self):
        self.same((mixed(()), mixed((((), 0),)), mixed((((), 3),)), mixed(parts=(((5, 6), 2),))), ((), (), (0, 0, 0), (0, 0, 5, 6)))
        self.same(mixed((((5, 6, 7), 0), ((1, 1), 2), ((), 1), ((9,), 6))), (5, 6, 8, 1, 0, 0, 9))
        # Sums are clipped once, at the end.
        self.same(mixed((((TOP, -TOP, TOP), 0), ((TOP, -TOP, 5), 0), ((-TOP, TOP, -6), 0))), (TOP, -TOP, TOP - 1))
        self.same(mixed((((1,), 4000),))[3999:], (0, 1))

    def test_faded(self):
        self.same(faded((100, 100, 100, 100, 100), ((1, 0), (3, 4096))), (0, 0, 50, 100, 100))
        # Points of one pair, a curve below 0, and one that is clipped.
        self.same(faded(sound=(5, -5, 7), points=((9, 2048),)), (3, -2, 4))
        self.same(faded((5, -5), ((0, -4096),)), (-5, 5))
        self.same(faded((TOP, -TOP, 3), ((0, TOP), (1, TOP), (2, 0))), (TOP, -TOP, 0))
        self.same(faded((), ((0, 0),)), ())

    def test_turned_back(self):
        self.same((turned_back(()), turned_back((5,)), turned_back(sound=(5, 6, 7))), ((), (5,), (7, 6, 5)))

    def test_drawn(self):
        source = drawing(99)
        for _ in range(150):
            sound = drawn_sound(source)
            points = tuple(sorted({pos: source.choice((0, 4096, 5000, -9, TOP)) for pos in source.sample(range(-3, 15), source.randint(1, 5))}.items()))
            self.same(faded(sound, points), tuple(middle(near(worth * curve_at(points, at), 4096)) for at, worth in enumerate(sound)))
            parts = tuple((drawn_sound(source, 5), source.randint(0, 7)) for _ in range(source.randint(0, 5)))
            length = max((place + len(one) for one, place in parts), default=0)
            told = [sum(one[at - place] for one, place in parts if 0 <= at - place < len(one)) for at in range(length)]
            self.same(mixed(parts), tuple(middle(total) for total in told))
            low = source.randint(0, len(sound))
            self.same(joined((cut(sound, 0, low), cut(sound, low, len(sound)))), sound)
            self.same(turned_back(turned_back(sound)), sound)

    def test_wrong_inputs(self):
        for thing in NO_SOUNDS:
            self.refuses("sound", cut, thing, None, None)
            self.refuses("sound", faded, thing, None)
            self.refuses("sound", turned_back, thing)
            self.refuses("sounds", joined, (thing,))
            self.refuses("parts", mixed, ((thing, 0),))
        for thing in not_numbers(0, 1, 7, 10 ** 60 - 1):
            self.refuses("low", cut, (), thing, None)
            self.refuses("parts", mixed, (((), thing),))
            self.refuses("high", cut, (5,), 0, thing) if thing != 1 or thing is True else None
        for thing in (None, [()], 5, "", (5,)):
            self.refuses("sounds", joined, thing)
            self.refuses("parts", mixed, thing)
        self.refuses("parts", mixed, (((), 0, 0),))
        self.refuses("parts", mixed, ([(), 0],))
        for points in (None, (), ((0, 0), (0, 1)), ((0, True),), ((0, TOP + 1),), [(0, 0)], tuple((k, 0) for k in range(65))):
            self.refuses("points", faded, (), points)


class Spreads(Case):
    def test_spread_and_kept(self):
        self.same((spread((5, 6), 1), spread(sound=(5, 6), many=3), spread((), 64)), ((5, 6), (5, 0, 0, 6, 0, 0), ()))
        self.same((kept_each((5, 6, 7), 1), kept_each(sound=(5, 6, 7, 8, 9), many=2), kept_each((5, 6), 64), kept_each((), 3)), ((5, 6, 7), (5, 7, 9), (5,), ()))
        self.same((len(spread((1,) * 4000, 64)), kept_each(spread((4, 5, 6), 64), 64)), (256000, (4, 5, 6)))

    def test_change_of_places(self):
        """[102]: for all sounds whose length q divides, just if p and q have no common divisor above 1."""
        for p, q in product(range(1, 13), repeat=2):
            alike = True
            for times in range(4):
                sound = tuple(range(1, q * times + 1))
                alike = alike and kept_each(spread(sound, p), q) == spread(kept_each(sound, q), p)
            self.assertEqual(alike, gcd(p, q) == 1, (p, q))

    def test_wrong_inputs(self):
        for function in (spread, kept_each):
            for thing in NO_SOUNDS:
                self.refuses("sound", function, thing, None)
            for thing in not_numbers(1, 7) + [65]:
                self.refuses("many", function, (), thing)


class Texts(Case):
    def test_texts(self):
        for sound, text in (
            ((), "sound 0"), ((5,), "sound 1 5*1"), ((0, 0, -5), "sound 3 0*2 -5*1"), ((1, 2, 1, 1), "sound 4 1*1 2*1 1*2"),
            ((-TOP,) * LAST, f"sound {LAST} -{TOP}*{LAST}"), (tuple(k & 1 for k in range(LAST)), "sound 20000" + " 0*1 1*1" * 10000),
        ):
            self.same(show_sound(sound), text)
            self.same(read_sound(text), sound)
        self.same(show_sound(sound=(7,) * (LAST + 1)), "sound 20001 7*20001")
        self.same(read_sound(text="sound 2 7*2"), (7, 7))

    def test_texts_of_no_sound(self):
        for text in (
            "", "sound", "sound ", "sound 0 ", " sound 0", "sound 00", "sound -0", "sound 1", "sound 0 5*0", "sound 1 5*1 ", "sound 1  5*1",
            "sound 1 5", "sound 1 5*", "sound 1 *1", "sound 1 05*1", "sound 1 +5*1", "sound 1 -0*1", "sound 1 5*01", "sound 1 5*+1", "sound 1 5*-1",
            "sound 2 5*1", "sound 1 5*2", "sound 2 5*1 5*1", "sound 3 5*3 6*0", "sound 1 1048576*1", "sound 1 -1048576*1", "sound 20001 7*20001",
            "sound 20001 7*20000 6*1", "sound 1 5*1\n", "sound 1\n5*1", "\n", "Sound 0", "sound 0\n", "sound 1 5*1*1", "sound 1 a*1", "sound 1 5*1 x",
            "sound 99999999999999999999 7*99999999999999999999", "sound x 5*1", "sound 1 5*1 6*1", "sound 7*1", "s",
        ):
            self.raises(BadText, (0,), read_sound, text)

    def test_texts_cut_off(self):
        # What is left may be the text of no shorter sound: the length stands ahead.
        for sound in ((0, 0, -5), (12,) * 30, (1, 2, 3)):
            text = show_sound(sound)
            for end in range(len(text)):
                self.raises(BadText, (0,), read_sound, text[:end])

    def test_drawn(self):
        source = drawing(100)
        for _ in range(200):
            sound = tuple(source.choice((0, 0, 1, -7)) for _ in range(source.randint(0, 12)))
            text = show_sound(sound)
            self.same(read_sound(text), sound)
            at = source.randrange(len(text))
            bent = text[:at] + source.choice("0123456789* -+sx\n") + text[at + source.randint(0, 1):]
            try:
                self.same(show_sound(read_sound(bent)), bent)
            except BadText as error:
                self.same(error.row, 0)

    def test_wrong_inputs(self):
        for thing in NO_SOUNDS:
            self.refuses("sound", show_sound, thing)
        for thing in ANYTHING:
            if not isinstance(thing, str):
                self.refuses("text", read_sound, thing)
        for thing in ("sound\t0", "\x25", "\x7f", "sound 0\r"):
            self.refuses("text", read_sound, thing)


class Resampling(Case):
    def plain(self, sound, up, down, weights):
        z = spread(sound, up)
        told = []
        k = 0
        while down * k < len(z):
            told.append(middle(near(sum(weights[j] * z[down * k - j] for j in range(min(len(weights) - 1, down * k) + 1)), 4096)))
            k += 1
        return tuple(told)

    def drawn(self, source):
        up, down = source.choice((1, 2, 3, 6, 64, source.randint(1, 9))), source.choice((1, 2, 4, 6, source.randint(1, 9)))
        weights = tuple(source.choice((0, 4096, source.randint(-65536, 65536))) for _ in range(source.randint(1, 12)))
        return up, down, weights

    def test_plain(self):
        self.same(resampled((), 3, 2, (4096,)), ())
        self.same(resampled(sound=(5, 6, 7), up=1, down=1, weights=(4096,)), (5, 6, 7))
        self.same(resampled((5, 6, 7), 2, 1, (4096, 4096)), (5, 5, 6, 6, 7, 7))
        self.same(resampled((5, 6, 7, 8, 9), 1, 2, (2048, 2048)), (3, 7, 9))
        self.same(resampled((5,), 1, 64, (4096,)), (5,))
        self.same(resampled((TOP, TOP), 1, 1, (65536, 65536)), (TOP, TOP))
        self.same(resampled((1, 2), 1, 1, (0,) * 63 + (4096,)), (0, 0))
        self.same(resampled((3, -3), 1, 1, (2048,)), (2, -1))
        self.same(resampled((1, -1, 0), 1, 1, (2047,)) + resampled((1, -1, 0), 1, 1, (2048,)), (0, 0, 0, 1, 0, 0))

    def test_drawn(self):
        source = drawing(101)
        for _ in range(200):
            up, down, weights = self.drawn(source)
            sound = drawn_sound(source, 14, 5000)
            self.same(resampled(sound, up, down, weights), self.plain(sound, up, down, weights))

    def test_in_pieces(self):
        source = drawing(102)
        for _ in range(100):
            up, down, weights = self.drawn(source)
            resampler = Resampler(up, down, weights)
            self.same(resampler.told(), ())
            pushed, told = (), ()
            for _ in range(source.randint(0, 6)):
                piece = drawn_sound(source, source.choice((0, 1, 5)), 5000)
                pushed += piece
                new = resampler.push(piece)
                told += new
                self.same(told, resampled(pushed, up, down, weights))
                self.same(resampler.told(), told)
        resampler = Resampler(up=2, down=3, weights=(4096, 0))
        self.same((resampler.push(()), resampler.push(sound=(5,)), resampler.push((6,)), resampler.push((7,)), resampler.told()), ((), (5,), (0,), (), (5, 0)))

    def test_steady(self):
        self.same((steady(1, 1, (4096,)), steady(1, 1, (4095,)), steady(1, 64, (1000, 3096))), (True, 0, True))
        self.same((steady(2, 1, (4096,)), steady(2, 2, (4096,)), steady(2, 1, (4096, 4096)), steady(2, 4, (4096, 7))), (1, True, True, True))
        self.same((steady(up=6, down=4, weights=(4096, 0, 4096)), steady(6, 4, (0, 4096)), steady(6, 4, (4096, 0, 0, 0, 4096))), (4, 0, 2))
        self.same((steady(64, 1, (4096,) * 63), steady(64, 1, (4096,) * 64), steady(1, 1, (0,))), (63, True, 0))

    def test_steady_sounds(self):
        """[102]: a lasting worth stays where steady tells True; where it tells r, some place gets another one."""
        source = drawing(103)
        seen = {True: 0, False: 0}
        for _ in range(200):
            up, down = source.choice((1, 2, 3, 4, 6)), source.choice((1, 2, 3, 4, 6))
            weights = [source.choice((0, 1024, 2048, 4096)) for _ in range(source.randint(1, 9))]
            if source.random() < 0.6:
                weights = [source.randint(-5000, 5000) for _ in range(source.randint(up, 10))]
                for r in range(up):
                    weights[r] += 4096 - sum(weights[r::up])
            weights = tuple(weights)
            told = steady(up, down, weights)
            seen[told is True] += 1
            for worth in (4096, -7, 12345):
                late = [one for k, one in enumerate(resampled((worth,) * 40, up, down, weights)) if down * k >= len(weights) - 1]
                if told is True:
                    self.assertEqual(set(late), {worth})
                elif worth == 4096:
                    self.assertNotEqual(set(late), {worth})
            if told is not True:
                sums = [sum(weights[r::up]) for r in range(0, up, gcd(up, down))]
                self.same(told, [at * gcd(up, down) for at, one in enumerate(sums) if one != 4096][0])
        self.assertTrue(min(seen.values()) > 30, seen)

    def test_wrong_inputs(self):
        for thing in NO_SOUNDS:
            self.refuses("sound", resampled, thing, None, None, None)
            self.refuses("sound", Resampler(1, 1, (4096,)).push, thing)
        for thing in not_numbers(1, 7) + [65]:
            self.refuses("up", resampled, (), thing, None, None)
            self.refuses("down", resampled, (), 1, thing, None)
            self.refuses("up", steady, thing, None, None)
            self.refuses("down", steady, 1, thing, None)
            self.refuses("up", Resampler, thing, None, None)
            self.refuses("down", Resampler, 1, thing, None)
        for weights in (None, (), [4096], (True,), (65537,), (-65537,), (0,) * 65, (None,), 4096):
            self.refuses("weights", resampled, (), 1, 1, weights)
            self.refuses("weights", steady, 1, 1, weights)
            self.refuses("weights", Resampler, 1, 1, weights)
        for thing in ANYTHING:
            right = any(same(thing, one) for one in ((1,), (0, 1), (1, 2), (2, 4), (1, 0), (1, -1)))
            if not right:
                self.refuses("weights", steady, 64, 64, thing)
