"""The texts of projects, there and back [58], [59], and what follows [62]."""

from samesamples.datatexts import text_of
from samesamples.errors import BadText
from samesamples.projectreadings import read_project
from samesamples.projecttexts import show_project
from samesamples.scorenotes import has_notes
from samesamples.scoretexts import show_score
from boxes import KNOBS, inlets
from helpers import ANYTHING, Case, drawing
from projects import AWAY, CROWD, DUO, FED, LEVEL, SOUNDLESS, let_project, mix, project, voices
from scores import SONG, song

EMPTY = song(())
TUNED = project({"s": SONG, "t": EMPTY}, a=("voices", 3, voices("s"), (("c", 0),)), b=mix(None, ("c", 2047)), c=("clock", 0, (0, 0, 3), ()))


def accepted(text):
    try:
        read_project(text)
    except BadText:
        return False
    return True


def rows_of(text):
    return text.split("\n")[:-1]


class Texts(Case):
    def there_and_back(self, name, one):
        text = show_project(name, one)
        self.same(read_project(text), (name, one))
        return text

    def test_rows(self):
        self.same(self.there_and_back("p", ((), ())), "project p\nend\n")
        self.same(self.there_and_back("abcdefghijkl", project(z9=LEVEL)), "project abcdefghijkl\nbox z9 level 0 (i5;)\nend\n")
        text = ("project tuned\nbox a voices 3 (ss;i3;soldest;(i0;i4000;)i2;i2;)\nbox b mix 0 ((i4096;i4096;)i0;)\n"
                "box c clock 0 (i0;i0;i3;)\nwire a 0 c 0\nwire b 1 c 2047\n" + show_score("s", SONG) + show_score("t", EMPTY) + "end\n")
        self.same(self.there_and_back("tuned", TUNED), text)
        self.same(show_project(name="duo", project=DUO), show_project("duo", DUO))

    def test_each_kind(self):
        for kind, rows in KNOBS.items():
            for knobs in rows:
                many = inlets(kind, knobs)
                scores = {knobs[0]: SOUNDLESS} if kind == "voices" else {}
                for wires in ((None,) * many, (("x", 5),) * many, (("b", 1),) * many):
                    self.there_and_back("p", project(scores, b=(kind, 8, knobs, wires), x=LEVEL))

    def test_drawn_projects(self):
        source = drawing(58)
        for _ in range(150):
            boxes, scores = let_project(source, has_notes, most=6)
            marked = tuple((name, box[:1] + (source.choice((0, 3, 10 ** 60 - 1)),) + box[2:]) for name, box in boxes)
            text = self.there_and_back(source.choice(("p", "z9")), (marked, scores))
            self.same(show_project(*read_project(text)), text)

    def test_most_boxes_and_scores(self):
        boxes = tuple((f"n{at:02}", LEVEL) for at in range(24))
        scores = tuple((f"s{at}", EMPTY) for at in range(8))
        text = self.there_and_back("p", (boxes, scores))
        row = "box z level 0 (i5;)\n"
        self.raises(BadText, (25,), read_project, text.replace("score s0", row + "score s0", 1))
        self.raises(BadText, (len(rows_of(text)) - 1,), read_project, text[:-4] + show_score("t", EMPTY) + "end\n")

    def test_wrong_inputs(self):
        for thing in ANYTHING:
            if thing not in ("a", "down"):
                self.refuses("name", show_project, thing, None)
            if thing != ((), ()):
                self.refuses("project", show_project, "p", thing)
            if not isinstance(thing, str):
                self.refuses("text", read_project, thing)
        for one in (project(b=mix(("c", 0))), project(b=mix(("b", 0))), project({"t": AWAY}), list(DUO), (DUO[0], []),
                    project(a=("voices", 0, voices("s"), (None,))), ((("a", ("level", True, (5,), ())),), ())):
            self.refuses("project", show_project, "p", one)
        for text in ("project p\t\nend\n", "\x25", "project p\r\nend\n", "project \xe9\nend\n", b"project p\nend\n"):
            self.refuses("text", read_project, text)


class Readings(Case):
    def bad(self, row, text):
        self.raises(BadText, (row,), read_project, text)

    def test_a_text_cut_off_anywhere(self):
        for one in (TUNED, DUO, ((), ()), FED):
            text = show_project("p", one)
            for end in range(len(text)):
                self.bad(text[:end].count("\n"), text[:end])

    def test_behind_the_end(self):
        text = show_project("p", DUO)
        many = len(rows_of(text))
        for more in ("end\n", "\n", "x", " ", "box c level 0 (i5;)\n", text):
            self.bad(many, text + more)

    def test_each_row_wrong_in_turn(self):
        rows = rows_of(show_project("p", TUNED))
        for at, row in enumerate(rows):
            for wrong in (row + " ", " " + row, row.replace(" ", "  ", 1) + " ", "", " ", row.upper(), row[1:], "x", row + " 1x"):
                self.bad(at, "\n".join(rows[:at] + [wrong] + rows[at + 1:]) + "\n")

    def test_rows_out_twice_and_exchanged(self):
        rows = rows_of(show_project("p", project({"s": EMPTY}, a=mix(("b", 1), ("a", 1)), b=LEVEL, c=mix(None, ("a", 0)))))
        heads = [row.split(" ")[0] for row in rows]
        self.same(heads, ["project"] + ["box"] * 3 + ["wire"] * 3 + ["score", "tempo", "tuning", "voice", "end", "end"])

        def text(*numbers):
            return "".join(rows[number] + "\n" for number in numbers)

        everything = range(len(rows))
        for at in everything:
            twice = text(*everything[:at + 1], *everything[at:])
            self.bad(at + 1, twice) if heads[at] != "end" or at == 12 else self.bad(13, twice)
        # Without a box its wires, without a wire nothing; without the row of a score's head the next one cannot stand.
        self.bad(0, text(*everything[1:]))
        self.bad(3, text(0, *everything[2:]))
        self.bad(12, text(0, 1, *everything[3:]))
        self.bad(5, text(0, 1, 2, *everything[4:]))
        for at in (4, 5, 6):
            self.assertTrue(accepted(text(*everything[:at], *everything[at + 1:])))
        self.assertTrue(accepted(text(0, 1, 2, 3, 4, 5, 6, 12)))
        self.bad(7, text(*everything[:7], *everything[8:]))
        self.bad(12, text(*everything[:12]))
        # Out of their sequence.
        self.bad(2, text(0, 2, 1, *everything[3:]))
        self.bad(5, text(0, 1, 2, 3, 5, 4, *everything[6:]))
        self.bad(5, text(0, 1, 2, 3, 6, 5, 4, *everything[7:]))
        self.bad(3, text(0, 1, 4, 2, *everything[3:]))
        self.bad(9, text(0, 1, 2, 3, 7, 8, 9, 10, 11, 4, 5, 6, 12))
        self.bad(9, text(0, 1, 2, 7, 8, 9, 10, 11, 12, 3)[:-1] + "\n")
        self.bad(8, text(0, 1, 2, 7, 8, 9, 10, 11, 3, 12))

    def test_box_rows(self):
        tail = "end\n"
        for row in (
            "box", "box a", "box a level", "box a level 0", "box a level 0 (i5;) ", "box a level 0 (i5;) x", "box A level 0 (i5;)",
            "box abcdefghijklm level 0 (i5;)", "box  level 0 (i5;)", "box a levels 0 (i5;)", "box a Level 0 (i5;)", "box a level 00 (i5;)",
            "box a level -0 (i5;)", "box a level +0 (i5;)", "box a level -1 (i5;)", "box a level 01 (i5;)", "box a level 0x (i5;)",
            "box a level  (i5;)", "box a level i0; (i5;)", "box a level 0 (i05;)", "box a level 0 (i5;", "box a level 0 (i5)",
            "box a level 0 i5;", "box a level 0 (t)", "box a level 0 (i5;i5;)", "box a level 0 (i1048576;)", "box a level 0 ()",
            "box a level 0 (i5;)(i5;)", "box a mix 0 ((i1;)i0)", "box a mix 0 ((i1;i2;)f)", "box a gain 0 (snear )", "box a latch 0 n",
            "box a level 0 (5)", "boxes a level 0 (i5;)", "box a level 0\t(i5;)".replace("\t", "  "), "box a level " + "1" * 61 + " (i5;)",
            "box a level 1_0 (i5;)", "box a voices 0 (()i3;soldest;(i0;)i2;i2;)",
        ):
            self.bad(1, f"project p\n{row}\n{tail}")
        self.assertTrue(accepted("project p\nbox a level " + "1" * 60 + f" (i5;)\n{tail}"))
        self.bad(2, f"project p\nbox b level 0 (i5;)\nbox a level 0 (i5;)\n{tail}")
        self.bad(2, f"project p\nbox b level 0 (i5;)\nbox b level 0 (i6;)\n{tail}")
        self.assertTrue(accepted(f"project p\nbox b level 0 (i5;)\nbox b0 level 0 (i5;)\n{tail}"))

    def test_head_rows(self):
        for row in ("project", "project ", "project P", "project p p", "Project p", " project p", "project p ", "project abcdefghijklm", "",
                    "score p", "end"):
            self.bad(0, row + "\nend\n")
        self.bad(0, "")
        self.bad(0, "project p")
        self.bad(1, "project p\n")
        self.bad(1, "project p\nproject p\nend\n")

    def test_wire_rows(self):
        head = "project p\nbox a mix 0 ((i1;i2;)i0;)\nbox b level 0 (i5;)\n"
        for row in (
            "wire a 0 b 0", "wire a 1 b 2047", "wire a 1 a 1", "wire a 0 a 2047",
        ):
            self.assertTrue(accepted(f"{head}{row}\nend\n"), row)
        for row in (
            "wire", "wire a", "wire a 0 b", "wire a 0 b 0 0", "wire a 2 b 0", "wire b 0 a 0", "wire c 0 b 0", "wire a -1 b 0",
            "wire a 00 b 0", "wire a 0 B 0", "wire a 0 abcdefghijklm 0", "wire a 0  0", "wire a 0 b 2048", "wire a 0 b -1", "wire a 0 b 00",
            "wire a 0 b +1", "wire a 0 b 1 ", "wire a x b 0", "wire a 0 b x", "wire A 0 b 0", "wires a 0 b 0", "wire a 0 b " + "9" * 70,
            "wire a " + "9" * 70 + " b 0",
        ):
            self.bad(3, f"{head}{row}\nend\n")
        self.bad(4, f"{head}wire a 0 b 0\nwire a 0 b 1\nend\n")
        self.bad(4, f"{head}wire a 1 b 0\nwire a 0 b 1\nend\n")
        self.bad(4, f"{head}wire a 0 b 0\nbox c level 0 (i5;)\nend\n")
        # A source need not stand for its row to stand, but the project must be let.
        self.bad(5, f"{head}wire a 0 c 0\nend\n")
        self.bad(4, f"{head}wire a 0 c 0\nwires\nend\n")

    def test_projects_that_are_not_let(self):
        for rows in (
            "box a mix 0 ((i1;)i0;)\nwire a 0 a 0\n", "box a mix 0 ((i1;)i0;)\nwire a 0 c 5\n",
            "box a voices 0 (ss;i3;soldest;(i0;i4000;)i2;i2;)\n", show_score("s", AWAY), show_score("s", CROWD),
            "box a voices 0 (ss;i3;soldest;(i0;i4000;)i2;i2;)\n" + show_score("t", SONG),
        ):
            text = f"project p\n{rows}end\n"
            self.bad(len(rows_of(text)), text)

    def test_scores_within(self):
        score = show_score("s", SONG)
        rows = rows_of(score)
        for at, row in enumerate(rows):
            for wrong in (row + " ", "", "x", row.upper()):
                self.bad(1 + at, "project p\n" + "\n".join(rows[:at] + [wrong] + rows[at + 1:]) + "\nend\n")
            self.bad(1 + at, "project p\n" + "\n".join(rows[:at]) + ("\n" if at else ""))
        self.bad(1 + len(rows), f"project p\n{score}{score}end\n")
        self.bad(1 + len(rows), f"project p\n{score}" + show_score("r", SONG) + "end\n")
        self.assertTrue(accepted(f"project p\n{score}" + show_score("s0", SONG) + "end\n"))
        self.bad(1 + len(rows), f"project p\n{score}voice w : 0.1\nend\n")
        self.bad(1 + len(rows), f"project p\n{score}box a level 0 (i5;)\nend\n")
        self.bad(1, "project p\ntempo 0 1\nend\n")
        self.bad(1, "project p\nscore S\n" + "\n".join(rows[1:]) + "\nend\n")

    def oracle(self, text, ends):
        """A row that is refused cannot be stood by any end; the rows ahead of it can."""
        rows = text.split("\n")
        try:
            told = read_project(text)
        except BadText as error:
            row = error.row
        else:
            self.assertEqual(show_project(*told), text)
            return False
        self.assertTrue(0 <= row <= len(rows) - 1)
        if row < len(rows) - 1:
            for end in ends:
                self.assertFalse(accepted("".join(one + "\n" for one in rows[:row + 1]) + end), (row, text))
        return True

    def test_texts_with_one_sign_changed(self):
        source = drawing(59)
        refused = 0
        ends = ("", "end\n", "voice zzz :\nend\nend\n", "tuning 1 1\nvoice zzz :\nend\nend\n",
                "tempo 0 1\ntuning 1 1\nvoice zzz :\nend\nend\n", "project p\nend\n", "end\nend\n")
        for _ in range(500):
            text = show_project("p", let_project(source, has_notes, most=3))
            at = source.randrange(len(text))
            sign = source.choice("0123456789 \n;()itnfsabcz-")
            changed = source.choice((text[:at] + text[at + 1:], text[:at] + sign + text[at:], text[:at] + sign + text[at + 1:]))
            if changed != text:
                refused += self.oracle(changed, ends)
        self.assertTrue(100 < refused < 500, refused)

    def test_data_of_knobs(self):
        for knobs in (((1, 2), 3), ((), 0)):
            text = f"project p\nbox a mix 0 {text_of(knobs)}\nend\n"
            self.same(read_project(text), ("p", project(a=("mix", 0, knobs, (None,) * len(knobs[0])))))
        self.same(read_project(text="project p\nend\n"), ("p", ((), ())))
