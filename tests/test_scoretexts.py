"""The texts of scores, there and back [29], [30], and what follows [32]."""

from samesamples.errors import BadText
from samesamples.scorekinds import is_score
from samesamples.scorereadings import read_score
from samesamples.scoretexts import show_score
from helpers import ANYTHING, Case, drawing
from scores import MANY, NOTE, SONG, drawn_score, song

HEAD = "score s\ntempo 0 1\ntuning 1 1\n"
TAIL = "voice v :\nend\n"

# What may stand behind the rows of a text that are right so far, if anything may.
ENDS = ("", "end\n", "voice zzz :\nend\n", "tuning 1 1\nvoice zzz :\nend\n", "tempo 0 1\ntuning 1 1\nvoice zzz :\nend\n",
        "score s\ntempo 0 1\ntuning 1 1\nvoice zzz :\nend\n")


def accepted(text):
    try:
        read_score(text)
    except BadText:
        return False
    return True


class Texts(Case):
    def items(self, items, words):
        """These items are shown by these words, and read from them, in a phrase and in a voice."""
        phrases = [("a", ())]
        score = song(items, phrases=phrases + [("b", items)], tuning=(1, ((1, 1),)))
        text = f"score s\ntempo 0 1\ntuning 1 1\nphrase a :\nphrase b :{words}\nvoice v0 :{words}\nend\n"
        self.same(show_score("s", score), text)
        self.same(read_score(text), ("s", score))

    def test_each_item(self):
        for items, words in (
            ((), ""), ((NOTE,), " 0.1"), ((("note", -60, (4096, 1)),), " -60.4096"), ((("note", 60, (1, 64)),), " 60.1/64"),
            ((("rest", (3, 2)),), " r.3/2"), ((("rest", (3, 1)),), " r.3"), ((("loud", 0),), " !0"), ((("loud", 4096),), " !4096"),
            ((("call", "a", 0),), " @a"), ((("call", "a", 60),), " @a+60"), ((("call", "a", -60),), " @a-60"),
            ((("times", 0, ()),), " ( )x0"), ((("times", MANY, (NOTE,)),), " ( 0.1 )x1000000000"),
            ((("by", (1, 16), ()),), " [1/16 ]"), ((("by", (16, 1), (NOTE, NOTE)),), " [16 0.1 0.1 ]"),
            ((("times", 2, (("by", (3, 2), (("times", 1, ()), NOTE)), ("loud", 7))), NOTE), " ( [3/2 ( )x1 0.1 ] !7 )x2 0.1"),
        ):
            self.items(items, words)

    def test_deepest_and_longest(self):
        items, words = (NOTE,), " 0.1"
        for _ in range(7):
            items, words = (("times", 2, items),), f" ({words} )x2"
        self.items(items, words)
        self.items((("by", (1, 2), (("times", 3, (("by", (1, 2), ()),)),)),), " [1/2 ( [1/2 ] )x3 ]")
        self.items((NOTE,) * 200, " 0.1" * 200)
        items, words = (), ""
        for _ in range(8):
            items, words = (("by", (1, 2), items),), f" [1/2{words} ]"
        self.items(items, words)

    def test_whole_scores(self):
        text = show_score("s", SONG)
        self.same(read_score(text), ("s", SONG))
        text = "score n1\ntempo 0 7/3\ntempo 5/2 1/64\ntempo 1000000 100000\ntuning 1048576 4096/4095 1/4096 2\nvoice v :\nend\n"
        tempo = (((0, 1), (7, 3)), ((5, 2), (1, 64)), ((10 ** 6, 1), (10 ** 5, 1)))
        score = (tempo, (2 ** 20, ((4096, 4095), (1, 4096), (2, 1))), (), (("v", ()),))
        self.same(read_score(text), ("n1", score))
        self.same(show_score(name="n1", score=score), text)

    def test_there_and_back(self):
        source = drawing(32)
        for _ in range(150):
            score = drawn_score(source)
            name = source.choice(("s", "abcdefghijkl", "z9"))
            self.assertIs(is_score(score), True)
            self.same(read_score(show_score(name, score)), (name, score))

    def test_wrong_inputs(self):
        for thing in ANYTHING:
            if thing not in ("a", "down"):
                self.refuses("name", show_score, thing, None)
            if thing != ():
                self.refuses("score", show_score, "s", thing)
            if not isinstance(thing, str):
                self.refuses("text", read_score, thing)
        self.refuses("score", show_score, "s", SONG[:3] + ((),))
        self.refuses("name", show_score, "1s", SONG)
        for text in ("score s\t\n", "\x25", "score \xe9\n", HEAD + "\x7f" + TAIL, HEAD + TAIL + "\r\n", b"score s\n"):
            self.refuses("text", read_score, text)


class Readings(Case):
    def bad(self, row, text):
        self.raises(BadText, (row,), read_score, text)

    def test_texts_that_end_too_soon(self):
        self.bad(0, "")
        self.bad(0, "score s")
        self.bad(1, "score s\n")
        self.bad(1, "score s\ntempo 0 1")
        self.bad(2, "score s\ntempo 0 1\n")
        self.bad(3, HEAD)
        self.bad(4, HEAD + "phrase a :\n")
        self.bad(4, HEAD + "voice v :\n")
        self.bad(4, HEAD + "voice v :\nend")

    def test_a_text_cut_off_anywhere(self):
        source = drawing(30)
        for _ in range(12):
            text = show_score("s", drawn_score(source))
            for end in range(len(text)):
                cut = text[:end]
                self.bad(cut.count("\n"), cut)

    def test_each_row_wrong_in_turn(self):
        rows = show_score("s", SONG).split("\n")[:-1]
        for at, row in enumerate(rows):
            for wrong in (row + " ", " " + row, row.replace(" ", "  ", 1) + " ", row + " 1x", "", " ", row.upper(), row[1:], "x"):
                self.bad(at, "\n".join(rows[:at] + [wrong] + rows[at + 1:]) + "\n")

    def test_rows_out_twice_and_exchanged(self):
        text = show_score("s", SONG)
        rows = text.split("\n")[:-1]
        for at in range(len(rows)):
            for changed in (rows[:at] + rows[at + 1:], rows[:at] + [rows[at]] + rows[at:]):
                self.oracle("\n".join(changed) + "\n")
            for other in range(at):
                changed = list(rows)
                changed[at], changed[other] = rows[other], rows[at]
                self.oracle("\n".join(changed) + "\n")
        self.bad(1, "score s\nscore s\n" + text[8:])
        self.bad(len(rows), text + "end\n")
        self.bad(len(rows), text + "\n")
        self.bad(len(rows), text + "x")
        self.bad(len(rows), text + text)

    def test_words_of_other_forms(self):
        for word in (
            "0.1/1", "0.2/2", "00.1", "-0.1", "+1.1", "0.01", "0.1/02", "0.0", "0.-1", "0.1/-2", "0.+1", "0.", ".1", "0", "0.1.1",
            "0.1/", "0./2", "0.1/2/3", "0,1", "61.1", "-61.1", "0.4097", "0.1/65", "r", "r.", "r.0", "R.1", "r.1/1", "r1", "rr.1",
            "!", "!-1", "!4097", "!01", "!+1", "!1/2", "@", "@A", "@b", "@a+0", "@a-0", "@a+61", "@a-61", "@a+", "@a-", "@a+01",
            "@a+-1", "@a-+1", "@a+1-1", "@a+1+1", "@+1", "@a ", "( )", "( )x", "( )x-1", "( )x01", "( )x1000000001", "( )y1", "( x1",
            "(", ")x1", "]", "[1/2", "[", "[0 ]", "[17 ]", "[1/17 ]", "[2/2 ]", "[1/1 ]", "[01 ]", "[1/2 )x1", "( ]", "[-1 ]",
            "()x1", "( 0.1)x1", "(0.1 )x1", "[1/20.1 ]", "( [1/2 )x1 ]", "( )x1 )x1", "[1/2 ] ]", "\"", "None", "0.1 0.1\"", ":",
            "1_0.1", "0.1_0", "( )x" + "9" * 61, "9" * 61 + ".1", "0." + "1" * 5000, "!" + "1" * 5000, "", "  ",
        ):
            self.bad(4, HEAD + f"phrase a :\nphrase c : {word}\n" + TAIL)
            self.bad(4, HEAD + f"phrase a :\nvoice v : 0.1 {word}\nend\n")
            self.bad(4, HEAD + f"phrase a :\nvoice v : ( {word} )x1\nend\n")

    def test_bounds_of_items(self):
        self.bad(3, HEAD + "voice v :" + " 0.1" * 201 + "\nend\n")
        self.bad(3, HEAD + "voice v :" + " [1/2" * 8 + " 0.1" + " ]" * 8 + "\nend\n")
        self.bad(3, HEAD + "voice v :" + " (" * 20000 + " )x1" * 20000 + "\nend\n")
        self.bad(3, HEAD + "voice v :" + " (" * 20000 + "\nend\n")

    def test_names_and_calls(self):
        self.bad(4, HEAD + "phrase a :\nphrase a :\n" + TAIL)
        self.bad(3, HEAD + "phrase a : @a\n" + TAIL)
        self.bad(3, HEAD + "phrase b : @a\nphrase a :\n" + TAIL)
        self.bad(3, HEAD + "voice v : @v\nend\n")
        self.bad(4, HEAD + "voice v :\nvoice v :\nend\n")
        self.bad(4, HEAD + "voice v :\nphrase a :\nend\n")
        self.bad(3, HEAD + "phrase A :\n" + TAIL)
        self.bad(3, HEAD + "phrase abcdefghijklm :\n" + TAIL)
        self.bad(3, HEAD + "phrase : :\n" + TAIL)
        self.bad(3, HEAD + "phrase a\n" + TAIL)
        self.bad(3, HEAD + "phrase a 0.1\n" + TAIL)
        self.bad(0, "score\n" + HEAD[8:] + TAIL)
        self.bad(0, "score S\n" + HEAD[8:] + TAIL)
        self.bad(0, "score s s\n" + HEAD[8:] + TAIL)
        self.assertTrue(accepted(HEAD + "phrase v :\nphrase a : @v\nvoice v : @v @a\nend\n"))

    def test_how_many_rows(self):
        tempo = "".join(f"tempo {at} 1\n" for at in range(41))
        rows = tempo.split("\n")
        self.assertTrue(accepted("score s\n" + "\n".join(rows[:40]) + "\ntuning 1 1\n" + TAIL))
        self.bad(41, "score s\n" + tempo + "tuning 1 1\n" + TAIL)
        phrases = [f"phrase p{at} :\n" for at in range(13)]
        self.assertTrue(accepted(HEAD + "".join(phrases[:12]) + TAIL))
        self.bad(15, HEAD + "".join(phrases) + TAIL)
        voices = [f"voice v{at} :\n" for at in range(9)]
        self.assertTrue(accepted(HEAD + "".join(voices[:8]) + "end\n"))
        self.bad(11, HEAD + "".join(voices) + "end\n")
        self.assertTrue(accepted("score s\ntempo 0 1\ntuning 1" + " 1" * 24 + "\n" + TAIL))
        self.bad(2, "score s\ntempo 0 1\ntuning 1" + " 1" * 25 + "\n" + TAIL)
        self.bad(2, "score s\ntempo 0 1\ntuning 1\n" + TAIL)
        self.bad(1, "score s\ntuning 1 1\n" + TAIL)

    def test_tempos_and_tunings(self):
        for row in ("tempo 0 0", "tempo 1 1", "tempo 0", "tempo 0 1 1", "tempo 0 -1", "tempo 00 1", "tempo 0/1 1", "tempo -0 1",
                    "tempo 0 1/65", "tempo 0 100001", "tempo 0 2/2", "tempo", "tempo  0 1", "tempo 0 +1"):
            self.bad(1, f"score s\n{row}\ntuning 1 1\n" + TAIL)
        for row in ("tempo 0 1", "tempo 1/65 1", "tempo 1000001 1", "tempo -1 1"):
            self.bad(2, f"score s\ntempo 0 1\n{row}\ntuning 1 1\n" + TAIL)
        for row in ("tuning 0 1", "tuning 1048577 1", "tuning 1 0", "tuning 1 4097", "tuning 1 1/4097", "tuning 1 -1", "tuning 1/2 1",
                    "tuning 01 1", "tuning 1 1/1", "tuning 1 1 ", "tuning", "tuning 1 2/4", "tunings 1 1"):
            self.bad(2, f"score s\ntempo 0 1\n{row}\n" + TAIL)

    def oracle(self, text):
        """Where text is refused, its rows ahead can be gone on with, and those up to the refused one cannot."""
        rows = text.split("\n")
        try:
            name, score = read_score(text)
        except BadText as error:
            row = error.row
        else:
            self.assertEqual(show_score(name, score), text)
            return False
        self.assertTrue(0 <= row < len(rows))
        ahead = "".join(one + "\n" for one in rows[:row])
        self.assertTrue(any(accepted(ahead + end) for end in ENDS), (row, text))
        if row < len(rows) - 1:
            self.assertFalse(any(accepted(ahead + rows[row] + "\n" + end) for end in ENDS), (row, text))
        return True

    def test_texts_with_one_sign_changed(self):
        source = drawing(33)
        refused = 0
        for _ in range(600):
            text = show_score("s", drawn_score(source))
            at = source.randrange(len(text))
            sign = source.choice("0123456789 \n./()[]x@+-!:ravtend")
            changed = source.choice((text[:at] + text[at + 1:], text[:at] + sign + text[at:], text[:at] + sign + text[at + 1:]))
            if changed != text:
                refused += self.oracle(changed)
        self.assertTrue(100 < refused < 600)
