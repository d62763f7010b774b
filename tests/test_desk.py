"""Rows and commands [103] to [105], the desk [106] to [110], desks again [111], [112], and (G7) of [11]."""

from samesamples.datatexts import text_of
from samesamples.desk import Desk
from samesamples.deskwords import is_command
from samesamples.engine import Engine
from samesamples.journals import whole_rows
from samesamples.reviving import revived
from samesamples.scorenotes import has_notes
from desks import COMMANDS, PlainDesk, plain_command
from engines import LAST
from helpers import ANYTHING, Case, drawing
from histories import drawn_deed
from projects import DUO, FED, let_project, mix, project

ROWS = (
    "new b (ab)", "new b,c,d x", "load x", "give 0", "give 0 1 -2 3", "shut 1", "begin 0 b 1", "begin -7 B! 3", "end 0", "drop 99", "change 2 (n)",
    "undo 0", "redo 0", "hear 1", "pull 1", "work 3 1 1,2 0,5", "ahead b 3", "reach 9", "reach 9 a b", "rounds", "rounds 1 2", "front b", "buffer",
    "names", "busy", "seal", "save", "show 0", "sleeping 0", "lags", "lags b:1 a:-3",
)


def desk_of(one, ears="b"):
    desk = Desk()
    desk.do("new " + ears + " " + text_of(one))
    return desk


class Rows(Case):
    def test_whole_rows(self):
        for text, rows in (
            ("", ()), ("\n", ("",)), ("seal", ()), ("seal\n", ("seal",)), ("a\n\nb\nc", ("a", "", "b")), ("\n\n\n", ("", "", "")), (" a \n", (" a ",)),
            ("seal\n\nfront b\nbus", ("seal", "", "front b")),
        ):
            self.same(whole_rows(text=text), rows)
        for thing in ANYTHING + ("\t\n", "\x25\n", "\r\n", "\x7f"):
            if not isinstance(thing, str) or thing not in ("", "a", "1", "a b", "down", "\n"):
                self.refuses("text", whole_rows, thing)

    def test_each_command(self):
        self.assertEqual({row.split(" ")[0] for row in ROWS}, set(COMMANDS))
        for row in ROWS:
            self.assertIs(is_command(row), True, row)
            word, *words = row.split(" ")
            # A word too many, and one too few, where there are not any number of them.
            some = word in ("give", "reach", "rounds", "lags")
            self.assertIs(is_command(row + " 1"), word in ("give", "reach", "rounds"), row)
            self.assertIs(is_command(" ".join([word] + words[:-1])) if words else False, bool(words) and some and (word in ("rounds", "lags") or len(words) > 1), row)
            for bent in (" " + row, row + " ", row.replace(" ", "  ", 1), row.upper(), row + "\n", row + "\t", "x" + row):
                if bent != row:
                    self.assertIs(is_command(bent), False, bent)

    def test_empty_rows_and_values_that_are_no_strings(self):
        for row in ("", " ", "  ", "\n", "names\n", "names names", "x", "name", "Names", "namess", "seal\t", "front \x25", "front \x7f", "front \u00e4"):
            self.assertIs(is_command(row), False, row)
        for thing in ANYTHING + (["names"], ("names",), b"names"):
            self.assertIs(is_command(thing), False)
        self.assertIs(is_command(row="names"), True)

    def test_integers(self):
        sixty = "9" * 60
        for word, is_one in (
            ("0", True), ("-1", True), ("10", True), ("-0", False), ("03", False), ("00", False), ("-03", False), ("+3", False), ("", False), ("-", False),
            ("--3", False), ("3-", False), ("3.0", False), ("1,2", False), ("x", False), (sixty, True), ("-" + sixty, True), (sixty + "9", False),
            ("-" + sixty + "9", False), ("1_0", False), ("\u0663", False), (" 3", False), ("3:", False),
        ):
            for row in ("hear {}", "begin 0 b {}", "give 0 {}", "work 3 1 1 {}", "rounds 3 {}", "lags b:{}"):
                self.assertIs(is_command(row.format(word)), is_one or "," in word and row.startswith("work"), row.format(word))
            self.assertIs(is_command(f"work 3 1 {word},2 0"), is_one or "," in word)

    def test_names_words_and_lists(self):
        for word, is_one in (("b", True), ("B!", True), ("(b)", True), ("-", True), ("a,b", False), ("a:b", False), (":", False), (",", False), ("", False), ("a-1;", True)):
            for row in ("front {}", "begin 0 {} 1", "ahead {} 3", "reach 3 {}", "reach 3 a {}"):
                self.assertIs(is_command(row.format(word)), is_one, row.format(word))
            self.assertIs(is_command(f"lags {word}:3"), is_one)
            self.assertIs(is_command(f"new {word} x"), is_one or word == "a,b")
            self.assertIs(is_command(f"new c,{word} x"), is_one or word == "a,b")
        for row in ("new b, x", "new ,b x", "new b,,c x", "work 3 1 1, 0", "work 3 1 ,1 0", "work 3 1 1,,2 0", "work 3 1 1 0,", "lags b", "lags b:", "lags :3", "lags b:3:3", "lags b:3,c:4"):
            self.assertIs(is_command(row), False, row)
        for data in ("x", ",", ":", ",:;()", "(n)", "\\", "\"", "'"):
            for row in ("new b {}", "load {}", "change 0 {}"):
                self.assertIs(is_command(row.format(data)), True)

    def test_drawn_rows(self):
        source = drawing(105)
        words = ["0", "-0", "03", "7", "-12", "9" * 60, "9" * 61, "b", "B!", "a,b", "1,2", "1,,2", "a:1", "a:x", ":", ",", "", "(n)", "x:1:2"] + list(COMMANDS)
        commands = 0
        for _ in range(4000):
            row = " ".join([source.choice(list(COMMANDS))] + [source.choice(words) for _ in range(source.choice((0, 1, 1, 2, 2, 3, 4)))])
            if source.random() < 0.2:
                at = source.randint(0, len(row))
                row = row[:at] + source.choice(" ,:-0n") + row[at:]
            self.assertIs(is_command(row), plain_command(row), row)
            commands += is_command(row)
        self.assertTrue(200 < commands < 3000, commands)


class Desks(Case):
    def answers(self, desk, *told):
        for row, answer in told:
            self.same((row, desk.do(row)), (row, answer))

    def test_example(self):
        desk = Desk()
        self.same((desk.do("names"), desk.do("name"), desk.do("new b " + text_of(DUO)), desk.do("names")), ("no Engine", "no Unknown", "ok", "ok a b"))
        self.same((desk.do("begin 0 b 1"), desk.do("work 3 1 1 0"), desk.do("hear 2")), ("no NotReady 0 0", "ok 6", "ok 0 1"))
        self.same((desk.do("change 2 (swire;sb;i0;sa;i1;)"), desk.do("hear 1"), desk.do("pull 1"), desk.do("undo 2")), ("ok b:2", "no NotYet b", "ok 2", "no Heard b 2"))
        self.same((desk.do("lags b:1"), desk.do("lags b:2"), desk.do("buffer"), desk.do("lags b:0")), ("ok a:0 b:1", "no Ring b", "ok 1", "no NotUsable late -1"))

    def test_each_answer(self):
        one = project(a=("clock", 0, (0, 0, 99), ()), b=mix(("a", 1)), f=("feed", 0, (1,), ()))
        self.answers(
            desk_of(one, "b,f"), ("names", "ok a b f"), ("busy", "ok"), ("give 1 5 -6 7", "ok"), ("give 1", "ok"), ("shut 2", "ok"), ("begin 9 f 2", "ok 0"),
            ("begin 3 a 4", "ok 0"), ("busy", "ok 3:a:0:4:open 9:f:0:2:open"), ("change 2 (sanew;sa;)", "ok"), ("busy", "ok 3:a:0:4:struck 9:f:0:2:open"),
            ("end 3", "ok struck"), ("end 9", "ok laid"), ("begin 3 a 1", "ok 0"), ("drop 3", "ok"), ("front f", "ok 2"), ("front zz", "ok 0"),
            ("hear 1", "no NotYet b"), ("ahead b 2", "ok a:1 b:2"), ("hear 2", "ok 0,5 0,-6"), ("pull 1", "ok 1,7"), ("ahead b 3", "ok"), ("undo 5", "ok"),
            ("redo 2", "ok"), ("redo 2", "no NothingToRedo"), ("undo 2", "ok"), ("change 1 (sput;sa;slevel;(i9;)())", "no Heard b 2"),
            ("change 2 (sput;sa;slevel;(i9;)())", "ok"), ("sleeping 2", "ok"), ("change 0 (soff;sa;)", "no NotLet source b"), ("reach 6", "ok a:6 b:6 f:3"),
            ("reach 6 a b", "ok a:2 b:3 f:3"), ("rounds 9", "no Uneven b"), ("work 3 1 1,2,4 0,5", "ok 1"), ("rounds 4", "no NotGiven 1 4"), ("shut 1", "ok"),
            ("rounds 4 5", "ok 6"), ("buffer", "ok any"), ("lags", "ok a:0 b:0 f:0"), ("lags a:3 f:255", "ok a:3 b:2 f:255"), ("seal", "ok"), ("seal", "no Sealed"),
            ("undo 0", "no Sealed"),
        )

    def test_show_sleeping_save(self):
        desk = desk_of(DUO)
        self.answers(desk, ("show 0", "ok " + text_of(DUO)), ("sleeping 0", "ok"), ("save", "ok " + Engine(DUO, ("b",)).save()))
        self.answers(desk, ("change 3 (sput;sc;slevel;(i5;)())", "ok"), ("change 3 (sknobs;sc;(i6;))", "ok"), ("undo 9", "ok"), ("change 4 (soff;sc;)", "ok"))
        self.answers(desk, ("sleeping 3", "ok"), ("sleeping 5", "ok"), ("undo 5", "ok"), ("undo 3", "ok"), ("sleeping 4", "ok 1 2"), ("sleeping 5", "ok 1"), ("sleeping 9", "ok"))
        self.answers(desk, ("show 19999", "ok " + text_of(DUO)), ("show 20000", "no NotUsable sample -1"), ("sleeping -1", "no NotUsable sample -1"))

    def test_errors_and_their_fields(self):
        desk = desk_of(FED, "g")
        self.answers(
            desk, ("begin 16 g 1", "no NotUsable hand -1"), ("begin 0 G! 1", "no NotUsable name -1"), ("begin 0 g 2049", "no NotUsable many -1"),
            ("begin 0 zz 1", "no NoName zz"), ("begin 0 f 1", "no NotReady 0 -1"), ("begin 5 g 2", "ok 0"), ("begin 5 g 2", "no HandBusy 5"),
            ("begin 4 g 2", "no NameTaken g"), ("end 4", "no NoSlip 4"), ("rounds 1", "no HandBusy 5"), ("drop 5", "ok"), ("pull 3", "no NotGiven 1 1"),
            ("shut 1", "ok"), ("give 1 5", "no Shut 1"), ("give 0 1048576", "no NotUsable worths -1"), ("give 4", "no NotUsable channel -1"),
            ("change 0 (soff;sz;)", "no NotLet box z"), ("undo 0", "no NothingToUndo"), ("rounds", "no NotUsable cuts -1"), ("rounds 2049", "no NotUsable cuts -1"),
            ("change 5 (sall;())", "ok"), ("rounds 6", "no AcrossSeam 5"), ("rounds 2 5 2053", "ok 6"), ("rounds 4000 6000 8000 10000 12000 14000 16000 18000", "ok 16"),
            ("begin 0 g 2048", "no TooFar 20048"), ("begin 0 g 2001", "no TooFar 20001"),
            ("work 20001 1 1 0", "no NotUsable goal -1"), ("work 0 17 1 0", "no NotUsable hands -1"), ("work 0 1 2 0", "no NotUsable sizes -1"),
            ("work 0 17 2 -1", "no NotUsable picks -1"), ("reach 20001 G!", "no NotUsable still -1"), ("ahead y 3", "no NoName y"),
        )
        self.answers(desk_of(DUO), ("rounds 1 3", "no LongBuffer 1"), ("hear 0", "no NotUsable many -1"), ("lags a:1 a:2", "no NotUsable late -1"), ("lags z:1", "no NotUsable late -1"))

    def test_value_of_is_called_ahead_of_all_else(self):
        desk = desk_of(DUO)
        self.answers(desk, ("change -5 x", "no BadText 0"), ("change -5 n", "no NotUsable sample -1"), ("change 0 n", "no NotUsable deed -1"))
        self.answers(desk, ("new B! x", "no BadText 0"), ("new B! n", "no NotUsable project -1"), ("new b,b " + text_of(DUO), "no NotUsable ears -1"))
        self.answers(desk, ("load x", "no BadText 0"), ("load n", "no BadText 0"), ("change 0 sa;b;", "no BadText 0"))

    def test_a_refused_new_or_load_leaves_the_engine(self):
        desk = desk_of(DUO)
        desk.do("pull 3")
        before = desk.do("save")
        for row in ("new b n", "new B! " + text_of(DUO), "load n", "load " + before[3:-1], "new b"):
            self.assertTrue(desk.do(row).startswith("no "), row)
            self.same(desk.do("save"), before)
        # Those that are taken put another one in its place.
        self.answers(desk, ("new z ((((sc;(slevel;i0;(i5;)())))())", "no BadText 0"), ("new z (((sc;(slevel;i0;(i5;)())))())", "ok"), ("names", "ok c z"))
        self.answers(desk, ("load " + before[3:], "ok"), ("save", before), ("front b", "ok 3"))
        lone = Desk()
        self.answers(lone, ("load n", "no BadText 0"), ("save", "no Engine"), ("load " + before[3:], "ok"), ("save", before))

    def test_which_no_comes_first(self):
        desk = Desk()
        self.answers(desk, ("hear x", "no Unknown"), ("", "no Unknown"), ("change 0 x", "no Engine"), ("hear 0", "no Engine"), ("seal", "no Engine"), ("new b x", "no BadText 0"))

    def test_rings_of_lags(self):
        one = project(a=mix(("c", 1)), b=mix(("a", 0)), c=mix(("b", 2)), d=mix(("d", 4), ("a", 0)))
        desk = desk_of(one)
        self.answers(desk, ("lags a:1 b:1 c:1", "ok a:1 b:2 c:1 d:1"), ("lags d:4", "ok a:0 b:0 c:0 d:4"), ("lags d:5", "no Ring d"), ("lags d:256", "no NotUsable late -1"))
        words = desk.do("lags a:2 c:2").split(" ")
        self.same((words[:2], sorted(words[2:])), (["no", "Ring"], ["a", "b", "c"]))
        self.assertIn(tuple(words[2:]), (("a", "b", "c"), ("b", "c", "a"), ("c", "a", "b")))
        # The standing at the greatest front counts.
        self.answers(desk, ("change 3 (sloose;sd;i0;)", "ok"), ("work 3 1 1 0", "ok 12"), ("lags d:5", "ok a:0 b:0 c:0 d:5"))

    def test_lags_and_buffer_at_the_last(self):
        one = project(a=("clock", 0, (0, 0, 99), ()), b=mix(None))
        desk = desk_of(one)
        desk.do("change 19999 (swire;sb;i0;sb;i3;)")
        self.answers(desk, ("buffer", "ok any"), ("lags b:4", "ok a:0 b:4"))
        for cut in range(2000, LAST + 1, 2000):
            desk.do(f"rounds {min(cut, 19999)}")
        desk.do("rounds 20000")
        self.answers(desk, ("front a", "ok 20000"), ("buffer", "ok 3"), ("lags b:4", "no Ring b"), ("lags b:3", "ok a:0 b:3"), ("pull 1", "ok 0"))

    def test_journal(self):
        desk = Desk()
        self.same(desk.journal(), "")
        rows = ("names", "", " ", "x y", "new b " + text_of(DUO), "hear 1", "seal")
        for row in rows:
            desk.do(row=row)
        self.same(desk.journal(), "".join(row + "\n" for row in rows))
        before = desk.journal()
        for thing in ANYTHING + ("a\nb", "names\n", "\x25", "\t", "\u00e4"):
            if not isinstance(thing, str) or "\n" in thing or thing in ("\x25", "\t", "\u00e4"):
                self.refuses("row", desk.do, thing)
        self.same(desk.journal(), before)

    def test_is_command_and_no_unknown(self):
        """[112]: is_command is False exactly if do is refused or answers no Unknown."""
        for row in ROWS + ("", "x", "hear 03", "begin 0  b 3", "names "):
            self.same(desk_of(DUO).do(row) != "no Unknown", is_command(row))


class Drawn(Case):
    def rows(self, source, desk, told):
        names = told["names"] + ("zz", "B!")
        word = source.choice(list(COMMANDS) + ["work", "pull", "hear", "begin", "begin", "end", "change", "change", "give", "undo", "redo", "ahead", "rounds", "x", "seal 1"])
        few, name = (lambda high=9: str(source.randint(-1, high))), source.choice(names)
        if word in ("seal", "shut", "new") and source.random() < 0.7:
            word = "names"
        if word == "change":
            return f"change {few()} {text_of(drawn_deed(source, **told))}"
        if word == "load":
            return "load " + desk.do("save")[3:]
        return word + {
            "new": f" {name} {text_of(DUO)}", "give": f" {few(4)} {few()} {few()}", "shut": " " + few(3), "begin": f" {few(3)} {name} {few(3)}",
            "end": " " + few(3), "drop": " " + few(3), "undo": " " + few(), "redo": " " + few(), "hear": " " + few(3), "pull": " " + few(3),
            "work": f" {few()} {few(3)} {source.choice(('1', '1,2', '2'))} {few()},{few()}", "ahead": f" {name} {few()}", "reach": f" {few()} {name}",
            "rounds": f" {few(12)}" + source.choice(("", " 12")), "front": " " + name, "show": " " + few(), "sleeping": " " + few(),
            "lags": "".join(f" {one}:{few(3)}" for one in sorted(names) if source.random() < 0.3),
        }.get(word, "")

    def test_beside_a_plain_desk(self):
        """[112]: answers are those of the same calls; desks revived from a journal go on alike, and so do loaded ones."""
        source = drawing(112)
        seen = set()
        for _ in range(40):
            kinds = ("mix", "mix", "mix", "clock", "feed", "latch", "level")
            one = let_project(source, has_notes, least=2, most=4, kinds=kinds)
            told = {"names": tuple(name for name, _ in one[0]), "kinds": kinds}
            desk, plain = Desk(), PlainDesk()
            rows = [f"new {','.join(told['names'][:2])} {text_of(one)}"]
            for _ in range(40):
                row = rows[-1]
                self.same((row, desk.do(row)), (row, plain.do(row)))
                rows.append(self.rows(source, desk, told))
                # To tell the save for a row load, the desk was asked for it.
                if rows[-1].startswith("load"):
                    plain.do("save")
            self.same(desk.journal(), plain.rows)
            seen |= {" ".join(revived(desk.journal()).do(row).split(" ")[:2]) for row in rows[-3:]}
            self.check_revived(source, desk, rows)
        self.assertTrue(len(seen) > 8, seen)

    def check_revived(self, source, desk, rows):
        text = desk.journal()
        other = revived(text=text)
        self.same((other.journal(), other.do("save"), other.do("busy")), (text, desk.do("save"), desk.do("busy")))
        # Cut anywhere, it is the desk behind the whole rows.
        end = source.randint(0, len(text))
        cut, whole = revived(text[:end]), Desk()
        for row in whole_rows(text[:end]):
            whole.do(row)
        self.same(cut.journal(), text[:end][:text[:end].rfind("\n") + 1])
        for row in ["save"] + rows[-4:] + ["save"]:
            self.same(cut.do(row), whole.do(row))

    def test_load_with_the_save_just_told(self):
        source = drawing(113)
        for _ in range(15):
            told = {"names": ("a", "b", "f"), "kinds": ("mix", "clock", "feed")}
            one, other = desk_of(FED, "g"), desk_of(FED, "g")
            for turn in range(25):
                row = self.rows(source, Desk(), told)
                self.same(one.do(row), other.do(row))
                if turn > 3:
                    save = other.do("save")
                    self.same((other.do("load " + save[3:]), one.do("save")), ("ok" if save != "no Engine" else "no Unknown", save))

    def test_revived(self):
        self.same((revived("").journal(), revived("seal\nsea").journal(), revived("\n").journal(), revived("x").do("names")), ("", "seal\n", "\n", "no Engine"))
        for thing in ANYTHING + ("\t", "\x25"):
            if not isinstance(thing, str) or thing in ("\t", "\x25"):
                self.refuses("text", revived, thing)

    def test_each_beginning_of_a_journal(self):
        desk = desk_of(DUO)
        for row in ("work 3 1 1 0", "hear 2", "change 2 (swire;sb;i0;sa;i1;)", "undo 9", "busy", "bad row", "seal"):
            desk.do(row)
        text = desk.journal()
        for end in range(len(text) + 1):
            cut, whole = revived(text[:end]), Desk()
            for row in text[:end].split("\n")[:-1]:
                whole.do(row)
            self.same((cut.journal(), cut.do("save"), cut.do("names")), (whole.journal(), whole.do("save"), whole.do("names")))
