"""What items and scores are [23]."""

from samesamples.scorekinds import is_items, is_score
from helpers import ANYTHING, Case, drawing
from scores import MANY, NOTE, PHRASES, SONG, TEMPO, TUNING, drawn_score, song


def deep(many, inner, word="times"):
    """Items nested so deep: the innermost ones stand at this depth."""
    items = inner
    for _ in range(many - 1):
        items = (("times", 2, items),) if word == "times" else (("by", (1, 2), items),)
    return items


class Items(Case):
    def each(self, right, wrong):
        for item in right:
            self.assertIs(is_items((item,)), True, repr(item))
            self.assertIs(is_items((NOTE, ("by", (1, 1), (item,)))), True, repr(item))
        for item in wrong:
            self.assertIs(is_items((item,)), False, repr(item))
            self.assertIs(is_items((NOTE, ("times", 0, (item,)))), False, repr(item))

    def test_anything(self):
        self.only(is_items, ((),))
        self.assertIs(is_items([NOTE]), False)
        self.assertIs(is_items(NOTE), False)

    def test_notes_and_rests(self):
        right = [("note", key, (1, 1)) for key in (-60, -1, 0, 60)]
        wrong = [("note", key, (1, 1)) for key in (-61, 61, True, None, "0", (0, 1))]
        beats = [(1, 1), (4096, 1), (1, 64), (4095, 64), (3, 2)]
        no_beats = [(0, 1), (-1, 1), (4097, 1), (1, 65), (2, 2), (True, 1), (1, True), [1, 1], 1, (1,), (1, 2, 3)]
        right += [("note", 0, one) for one in beats] + [("rest", one) for one in beats]
        wrong += [("note", 0, one) for one in no_beats] + [("rest", one) for one in no_beats]
        self.each(right, wrong)

    def test_louds(self):
        self.each([("loud", loud) for loud in (0, 1, 4096)], [("loud", loud) for loud in (-1, 4097, True, None, "1", (1, 1))])

    def test_calls(self):
        right = [("call", "a", 0), ("call", "nowhere", -60), ("call", "abcdefghijkl", 60)]
        wrong = [("call", "a", 61), ("call", "a", -61), ("call", "a", False), ("call", "A", 0), ("call", "", 0),
                 ("call", "abcdefghijklm", 0), ("call", None, 0), ("call", ("a",), 0), ("call", "a", (1, 1))]
        self.each(right, wrong)

    def test_times_and_by(self):
        right = [("times", many, ()) for many in (0, 1, MANY)] + [("times", 3, (NOTE, NOTE))]
        wrong = [("times", many, ()) for many in (-1, MANY + 1, True, None, (1, 1))] + [("times", 1, [NOTE]), ("times", 1, NOTE)]
        right += [("by", ratio, ()) for ratio in ((1, 1), (16, 1), (1, 16), (15, 16))]
        wrong += [("by", ratio, ()) for ratio in ((0, 1), (17, 1), (1, 17), (-1, 1), (2, 2), (True, 1), 1, None)]
        wrong += [("by", (1, 1), [NOTE]), ("by", (1, 1), None)]
        self.each(right, wrong)

    def test_other_forms(self):
        self.each([], [
            (), ("note",), ("note", 0), ("note", 0, (1, 1), 0), ("rest",), ("rest", 0, (1, 1)), ("loud", 1, 1), ("call", "a"),
            ("times", 1), ("by", (1, 1)), ["note", 0, (1, 1)], ("notes", 0, (1, 1)), ("", 0), (None, 1), ("by", (1, 1), (), ()),
            ("bye", (1, 1), ()), ("play", "a", 0), ("repeat", 2, ()), ("quiet", 5), ("pause", (1, 1)), ("Note", 0, (1, 1)),
            (["note"], 0, (1, 1)), "note", 0, None, ("rest", 0), ("times", (), 1), ("note", (1, 1), 0), (("note",), (1, 1)),
        ])

    def test_two_hundred(self):
        self.assertIs(is_items((NOTE,) * 200), True)
        self.assertIs(is_items((NOTE,) * 201), False)
        self.assertIs(is_items((("times", 1, (NOTE,) * 200),) * 20), True)
        self.assertIs(is_items((("times", 1, (NOTE,) * 201),)), False)
        self.assertIs(is_items((("by", (1, 2), (NOTE,) * 201),)), False)

    def test_depth(self):
        for word in ("times", "by"):
            self.assertIs(is_items(deep(8, (NOTE,), word)), True)
            self.assertIs(is_items(deep(9, (NOTE,), word)), False)
            # A times at depth 8 may stand there, if nothing stands in it.
            self.assertIs(is_items(deep(9, (), word)), True)
            self.assertIs(is_items(deep(10, (), word)), False)


class Scores(Case):
    def test_the_songs(self):
        self.assertIs(is_score(SONG), True)
        self.assertIs(is_score(song(())), True)
        source = drawing(23)
        for _ in range(50):
            self.assertIs(is_score(drawn_score(source)), True)

    def test_anything(self):
        self.only(is_score, ())
        for at in range(4):
            for thing in ANYTHING:
                if thing != () or at != 2 or isinstance(thing, list):
                    self.assertIs(is_score(SONG[:at] + (thing,) + SONG[at + 1:]), False, repr(thing))
        self.assertIs(is_score(list(SONG)), False)
        self.assertIs(is_score(SONG[:3]), False)
        self.assertIs(is_score(SONG + ((),)), False)

    def test_phrases(self):
        def has(*phrases):
            return is_score((TEMPO, TUNING, phrases, (("v", ()),)))

        calls_a = (("call", "a", 0),)
        twelve = tuple((f"p{at}", ()) for at in range(13))
        self.assertIs(has(*twelve[:12]), True)
        self.assertIs(has(*twelve), False)
        self.assertIs(has(("a", ()), ("b", calls_a), ("c", calls_a + (("call", "b", 0),))), True)
        self.assertIs(has(("a", ()), ("a", ())), False)
        self.assertIs(has(("b", calls_a), ("a", ())), False)
        self.assertIs(has(("a", calls_a)), False)
        self.assertIs(has(("a", ()), ("b", (("call", "c", 0),))), False)
        for nest in (("times", 0, calls_a), ("by", (1, 2), calls_a), ("times", 1, (("by", (1, 1), calls_a),))):
            self.assertIs(has(("a", ()), ("b", (nest,))), True)
            self.assertIs(has(("b", (nest,)), ("a", ())), False)
        for phrases in ((("A", ()),), (("a",),), (("a", (), ()),), (["a", ()],), (("a", [NOTE]),), (("a", (("note",),)),)):
            self.assertIs(has(*phrases), False, repr(phrases))
        self.assertIs(is_score((TEMPO, TUNING, [("a", ())], (("v", ()),))), False)

    def test_voices(self):
        def has(*voices):
            return is_score((TEMPO, TUNING, PHRASES, voices))

        eight = tuple((f"v{at}", ()) for at in range(9))
        self.assertIs(has(), False)
        self.assertIs(has(*eight[:1]), True)
        self.assertIs(has(*eight[:8]), True)
        self.assertIs(has(*eight), False)
        self.assertIs(has(("a", (("call", "a", 0),))), True)
        self.assertIs(has(("v", ()), ("w", (("call", "v", 0),))), False)
        self.assertIs(has(("v", ()), ("w", (("times", 0, (("call", "v", 0),)),))), False)
        self.assertIs(has(("v", ()), ("v", ())), False)
        for voices in ((("1v", ()),), (("v",),), (["v", ()],), (("v", None),)):
            self.assertIs(has(*voices), False, repr(voices))
        self.assertIs(is_score((TEMPO, TUNING, PHRASES, [("v", ())])), False)

    def test_true_is_not_one(self):
        self.assertIs(is_score((TEMPO, (True, ((2, 1),)), (), (("v", ()),))), False)
        self.assertIs(is_score(((((0, 1), (True, 1)),), TUNING, (), (("v", ()),))), False)
        self.assertIs(is_score(song((("note", True, (1, 1)),))), False)
        self.assertIs(is_score(song((("times", True, ()),))), False)
