"""Values and their texts [20], [21], and what follows [22]."""

from samesamples.datareadings import value_of
from samesamples.datatexts import text_of
from samesamples.errors import BadText
from samesamples.values import is_value
from helpers import ANYTHING, Case, drawing, nested

SIGNS = "abcdefghijklmnopqrstuvwxyzABCDEFGHIJKLMNOPQRSTUVWXYZ0123456789 \n.,:!@+-*/()[]#"
SIXTY = 10 ** 60 - 1


def plain_text(value):
    if isinstance(value, tuple):
        return "(" + "".join(plain_text(item) for item in value) + ")"
    if isinstance(value, str):
        return "s" + value.replace("\n", "|") + ";"
    return {None: "n", True: "t", False: "f"}[value] if value is None or isinstance(value, bool) else f"i{value};"


def drawn_value(source, deep):
    choice = source.randint(0, 7 if deep > 0 else 4)
    if choice < 3:
        return (None, True, False)[choice]
    if choice == 3:
        return source.choice((0, 1, -1, source.randint(-SIXTY, SIXTY), SIXTY, -SIXTY))
    if choice == 4:
        return "".join(source.choice(SIGNS) for _ in range(source.randint(0, 6)))
    return tuple(drawn_value(source, deep - 1) for _ in range(source.randint(0, 4)))


class Values(Case):
    def test_is_value(self):
        def has_list(thing):
            return isinstance(thing, list) or isinstance(thing, tuple) and any(has_list(item) for item in thing)

        for thing in ANYTHING:
            self.assertIs(is_value(thing), not has_list(thing), repr(thing))

    def test_signs(self):
        for at in list(range(128)) + [160, 233, 8364]:
            self.assertIs(is_value(chr(at)), chr(at) in SIGNS, at)
            self.assertIs(is_value("a" + chr(at) + "b"), chr(at) in SIGNS, at)

    def test_long_integers(self):
        for integer, told in ((SIXTY, True), (-SIXTY, True), (SIXTY + 1, False), (-SIXTY - 1, False)):
            self.assertIs(is_value(integer), told)
            self.assertIs(is_value((integer,)), told)
        self.same(value_of(f"i{SIXTY};"), SIXTY)
        self.same(value_of(f"i-{SIXTY};"), -SIXTY)
        for integer in (SIXTY + 1, -SIXTY - 1):
            self.raises(BadText, (0,), value_of, f"i{integer};")
            self.refuses("value", text_of, integer)

    def test_depth(self):
        for deep in (1, 2, 29, 30):
            self.assertIs(is_value(nested(deep)), True)
            self.same(value_of(text_of(nested(deep))), nested(deep))
        for deep in (31, 32, 90, 100000):
            self.raises(BadText, (0,), value_of, "(" * deep + ")" * deep)
        for deep in (31, 32, 90):
            self.assertIs(is_value(nested(deep)), False)
            self.refuses("value", text_of, nested(deep))
        inner = (1, "a")
        for _ in range(29):
            inner = (inner, None)
        self.assertIs(is_value(inner), True)
        self.assertIs(is_value((inner,)), False)

    def test_texts(self):
        for value, text in (
            (None, "n"), (True, "t"), (False, "f"), (0, "i0;"), (1, "i1;"), (-10, "i-10;"), ("", "s;"), ("\n\n", "s||;"),
            ("n", "sn;"), ((), "()"), ((True, 1), "(ti1;)"), ((1, True), "(i1;t)"), (("a", ("b",)), "(sa;(sb;))"),
            (SIGNS, "s" + SIGNS.replace("\n", "|") + ";"),
        ):
            self.same(text_of(value), text)
            self.same(value_of(text), value)

    def test_there_and_back(self):
        source = drawing(21)
        texts = {}
        for _ in range(1500):
            value = drawn_value(source, 4)
            text = text_of(value)
            self.assertEqual(text, plain_text(value))
            self.same(value_of(text), value)
            texts[text] = True
            for end in {0, len(text) // 2, len(text) - 1}:
                self.raises(BadText, (0,), value_of, text[:end])
            for behind in ("n", ";", ")", "(", " ", "\n", "i0;"):
                self.raises(BadText, (0,), value_of, text + behind)
                if behind != "n":
                    self.assertRaises(BadText, value_of, behind + text)
        ordered = sorted(texts)
        for one, other in zip(ordered, ordered[1:]):
            self.assertFalse(other.startswith(one))

    def test_each_short_text(self):
        texts = [""]
        taken = 0
        for _ in range(4):
            texts = [text + sign for text in texts for sign in "i0-1;s|n()t"]
            for text in texts:
                try:
                    value = value_of(text)
                except BadText as error:
                    self.assertEqual(error.row, 0)
                else:
                    taken += 1
                    self.assertIs(is_value(value), True)
                    self.same(text_of(value), text)
        self.assertEqual(taken, self.count_short())

    def count_short(self):
        """How many texts of at most four of these signs there are, counted by their forms."""
        singles = 2                                 # n, t
        inner = len("i0-1s|n()t")                   # what may stand between s and the semicolon
        two = 1 + 1                                 # s; and ()
        three = 2 + inner + singles                 # i0; i1; s.; (n) (t)
        four = 3 + inner ** 2 + singles ** 2 + two  # i10; i11; i-1; s..; (nn) .. and (s;) (())
        return singles + two + three + four

    def test_wrong_texts(self):
        for text in (
            "", "i-0;", "i00;", "i01;", "i-01;", "i+1;", "i;", "i-;", "i 1;", "i1 ;", "i1_0;", "i1", "s", "sa", "s\n;",
            "sa\nb;", "s{;", "s_;", "(", ")", "())", "(()", "nn", " n", "n ", "n\n", "\nn", "x", "N", "T", "(n", "n)",
            "(n,n)", "i1;i2;", "(;)", "()()", "(n)n", "i--1;", "s?;", "sa;b;", "i1;;", "|", ";",
        ):
            self.raises(BadText, (0,), value_of, text)

    def test_wrong_inputs(self):
        for thing in ANYTHING + (b"n", "\t", "a\x25", "s\xe9;", "\x7f", ["n"]):
            if not isinstance(thing, str) or not thing.isascii() or thing in ("\t", "a\x25", "\x7f"):
                self.refuses("text", value_of, thing)
        for thing in ([], [1], ([],), "a;b", "|", "\x25", ("a", ("_",)), SIXTY + 1):
            self.refuses("value", text_of, thing)
        self.same(value_of(text="n"), None)
        self.same(text_of(value=()), "()")

    def test_long_text(self):
        value = tuple(range(20000))
        self.same(value_of(text_of(value)), value)
