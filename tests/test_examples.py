"""The examples of the document."""

from samesamples.aheads import go_ahead, needed_now
from samesamples.bounces import frozen_deed
from samesamples.boxkinds import inlets_of, kind_names, shape_of
from samesamples.buffers import greatest_buffer
from samesamples.choices import steps_left
from samesamples.cones import cone_of, seeds_of
from samesamples.conestretches import cone_by_segments
from samesamples.curves import curve_at
from samesamples.datareadings import value_of
from samesamples.datatexts import text_of
from samesamples.deedkinds import is_deed
from samesamples.deeds import done
from samesamples.desk import Desk
from samesamples.deskwords import is_command
from samesamples.device import Device
from samesamples.draws import draw, drawn, leap_draw
from samesamples.driving import worked
from samesamples.engine import Engine
from samesamples.errors import BadText, Heard, LongBuffer, NotLet
from samesamples.fitting import is_run
from samesamples.freeruns import free_runs
from samesamples.hangings import hangs_on, touched_by
from samesamples.histories import sleeping, standing
from samesamples.journals import whole_rows
from samesamples.kinds import is_name, is_number, is_quotient, is_sound
from samesamples.knobkinds import is_knobs, is_settled
from samesamples.lags import least_lags
from samesamples.leaps import leap_of
from samesamples.lengths import items_count, items_length
from samesamples.lines import line_lengths
from samesamples.loading import loaded
from samesamples.needs import channels_needed, needs_of
from samesamples.orders import order_of
from samesamples.partings import parting_of
from samesamples.projectkinds import is_box, reason_against
from samesamples.projectreadings import read_project
from samesamples.projects import beside, life_of, names_of, order_in, wires_of
from samesamples.projecttexts import show_project
from samesamples.pulls import pull
from samesamples.quotients import floor_of, minus, over, quotient_of
from samesamples.reaches import reach_of
from samesamples.reachnow import reach_now
from samesamples.reviving import revived
from samesamples.ringsums import height_ways, ring_sum
from samesamples.rounds import buffer_now, go_rounds
from samesamples.runs import run_of
from samesamples.scorekinds import is_score
from samesamples.scorenotes import notes_of
from samesamples.scorereadings import read_score
from samesamples.scoretexts import show_score
from samesamples.segments import seams_of, segments_of
from samesamples.slacks import least_slack
from samesamples.soundtexts import show_sound
from samesamples.states import is_state, start_of
from samesamples.steps import block_of, one_step
from samesamples.sures import sure_until
from samesamples.tempos import beat_of, sample_of, time_of
from samesamples.tunings import pitch_of, ratio_at
from samesamples.values import is_value
from samesamples.walking import walk_of
from samesamples.wholes import turned
from samesamples.windows import ahead_of, window_of
from helpers import Case
from projects import DUO, ECHO, FED, MUTE
from scores import PART, SONG


class Numbers(Case):
    def test_kinds(self):
        told = is_name("a1"), is_name("1a"), is_number(True), is_sound((3, -4)), is_quotient((2, 4))
        self.same(told, (True, False, False, True, False))

    def test_wholes(self):
        told = turned(-7, 2, "down"), turned(-7, 2, "near"), turned(-7, 2, "zero"), turned(7, 2, "near")
        self.same(told, (-4, -3, -3, 4))

    def test_quotients(self):
        told = quotient_of(6, -4), quotient_of(0, -4), minus((1, 2), (2, 3)), over((1, 2), (-1, 3)), floor_of((-3, 2))
        self.same(told, ((-3, 2), (0, 1), (-1, 6), (-3, 2), -2))

    def test_draws(self):
        self.same((draw(9), drawn(2 ** 31, 1), leap_draw(9, 2)), (1028884948, 0, 407595811))


class Sounding(Case):
    def test_curves(self):
        self.same((curve_at(((0, 0), (4, -10)), 1), curve_at(((0, 0), (4, -10)), 9)), (-3, -10))

    def test_tempos(self):
        fast = (((0, 1), (3, 1)), ((2, 1), (1, 2)))
        self.same((time_of(fast, (3, 1)), beat_of(fast, (13, 2)), sample_of(fast, (3, 1))), ((13, 2), (3, 1), 6))

    def test_tunings(self):
        self.same(ratio_at((1000, ((9, 8), (2, 1))), 3), (9, 4))
        self.same(pitch_of((1000, ((9, 8), (2, 1))), -1), 562)


class Values(Case):
    def test_values(self):
        self.same((is_value((None, True, -5, "a\nb", ())), is_value("a;b"), is_value([1])), (True, False, False))

    def test_texts(self):
        self.same(text_of((None, True, -5, "a\nb", ())), "(nti-5;sa|b;())")
        self.same(value_of("(i0;(s;))"), (0, ("",)))
        self.raises(BadText, (0,), value_of, "i-0;")


class Scores(Case):
    def test_scores(self):
        self.same(is_score(SONG), True)
        self.same((items_length(SONG, PART), items_count(SONG, PART)), ((5, 2), 4))

    def test_walks(self):
        self.same(walk_of(SONG, 0)[2:], (((3, 2), (1, 2), 2, 1024), ((2, 1), (1, 2), 0, 4096)))
        told = window_of(SONG, 0, (3, 2), (2, 1)), ahead_of(SONG, 0, (2, 1))
        self.same(told, ((((3, 2), (1, 2), 2, 1024),), 3))

    def test_notes(self):
        self.same(notes_of(SONG), ((0, 2, 4096, 4096), (2, 1, 8192, 1024), (3, 2, 8192, 1024), (5, 1, 4096, 4096)))

    def test_texts(self):
        text = ("score s\ntempo 0 5/2\ntempo 2 3\ntuning 4096 3/2 2\nphrase a : !1024 1.1/2\n"
                "voice v : 0.1 ( @a+1 )x2 [1/2 0.1 ]\nend\n")
        self.same(show_score("s", SONG), text)
        self.same(read_score(text), ("s", SONG))
        self.raises(BadText, (1,), read_score, "score s\n")


class Boxes(Case):
    def test_kinds(self):
        told = kind_names()[:3], inlets_of("mix", ((4096, 5), 0)), shape_of("wave", ((0, 9), 1, 8))
        self.same(told, (("clock", "cross", "curve"), 2, (2, 8)))
        told = is_knobs("press", (9, 2, 1, 0, 0)), is_knobs("latch", ()), is_settled("voices", ((), 1, "never", (0,), 1, 1))
        self.same(told, (False, True, True))

    def test_states(self):
        self.same((start_of("taps", ((1, 2, 3),)), is_state("taps", ((1, 2, 3),), (0, 0, 0))), ((0, 0), False))

    def test_steps(self):
        told = one_step("smooth", (2048, "near"), 0, (5,)), block_of("clock", (0, 0, 3), 0, (), 5)
        self.same(told, ((3, 3), (2, (0, 1, 2, 0, 1))))
        told = block_of("voices", (((0, 2, 4096, 4096),), 1, "never", (0, 100), 1, 1), (), ((0, 1, 2),), 3)
        self.same(told, ((), (0, 100, 0)))

    def test_leaps(self):
        self.same(leap_of("clock", (0, 0, 3), 0, 10 ** 30), 1)

    def test_duo_without_changes(self):
        # The clock of the document's duo, and the mix that adds to it what it told itself one sample earlier.
        clock = block_of("clock", (0, 0, 3), 0, (), 5)[1]
        told = [0]
        for worth in clock:
            told.append(one_step("mix", ((4096, 4096), 0), 0, (worth, told[-1]))[1])
        self.same((clock, tuple(told[1:])), ((0, 1, 2, 0, 1), (0, 1, 3, 3, 4)))


class Rings(Case):
    def test_heights(self):
        arrows = (("a", "b", 2), ("b", "a", -1), ("c", "c", -1))
        self.same(ring_sum(("a", "b", "c"), arrows, (0, 5, None)), ("heights", (0, 2, None)))
        self.same(height_ways(("a", "b", "c"), arrows, (0, 5, None)), ("ways", ((), (0,), None)))

    def test_orders(self):
        wires = (("c", "a", 0), ("a", "b", 0), ("b", "a", 1))
        self.same(order_of(("a", "b", "c"), wires), ("order", ("c", "a", "b")))
        self.same(parting_of(("a",), (("a", "a", 2), ("a", "a", 0))), ((1,), (((0, 4096), 0),), (((0, -4096), 1),)))
        wires = (("b", "a", 1), ("a", "a", 4), ("b", "b", 6))
        self.same(greatest_buffer(("a", "b"), wires), (4, ("b", "a"), (1,)))

    def test_slack(self):
        self.same(least_slack(("a", "b"), (("a", "b", 3, 1), ("b", "a", -1, 2)))[2:], ((0, 1), 2))


class Projects(Case):
    def test_kinds(self):
        self.same(is_box(("clock", 0, (0, 0, 3), (None,))), False)
        self.same(reason_against(((("b", ("mix", 0, ((4096,), 0), (("b", 0),))),), ())), ("ring", "b"))

    def test_projects(self):
        self.same(wires_of(DUO), (("a", "b", 0), ("b", "b", 1)))
        self.same(life_of(DUO, "b"), ("mix", 0, 0))
        self.same(order_in(DUO), ("a", "b"))
        self.same(names_of(beside(DUO, ((("aa", ("level", 0, (5,), ())),), ()))), ("a", "aa", "b"))

    def test_deeds(self):
        self.same((is_deed(("put", "c", "level", (5,), (None,))), is_deed(("loose", "c", 99))), (False, True))

        self.same(done(((("c", ("level", 0, (9,), ())),), ()), ("anew", "c"), 4), ((("c", ("level", 5, (9,), ())),), ()))
        self.raises(NotLet, ("source", "b"), done, DUO, ("off", "a"), 0)

    def test_texts(self):
        text = "project duo\nbox a clock 0 (i0;i0;i3;)\nbox b mix 0 ((i4096;i4096;)i0;)\nwire b 0 a 0\nwire b 1 b 1\nend\n"
        self.same(show_project("duo", DUO), text)
        self.same(read_project("project p\nbox a level 0 (i5;)\nend\n"), ("p", ((("a", ("level", 0, (5,), ())),), ())))
        self.raises(BadText, (4,), read_project, "project p\nbox a mix 0 ((i1;)i0;)\nwire a 0 b 0\nend\n")


class Histories(Case):
    def test_standings(self):
        self.same((standing(DUO, ECHO, 1) == DUO, standing(DUO, ECHO, 2) == DUO), (True, False))
        entries = ((3, 7, ("off", "a")),)
        self.same((sleeping(DUO, entries, 6), sleeping(DUO, entries, 7)), ((0,), ()))

    def test_segments(self):
        self.same(seams_of(((2, None, ("off", "a")), (0, 7, ("off", "b")))), (2, 7))
        told = segments_of(((), ()), ((3, 5, ("off", "a")),))
        self.same(told, ((0, 3, ((), ())), (3, 5, ((), ())), (5, None, ((), ()))))

    def test_runs(self):
        self.same(run_of(DUO, ECHO, MUTE, 5)[1], ((0, 1, 2, 0, 1), (0, 1, 2, 4, 4)))
        self.same(run_of(DUO, (), MUTE, 5)[1], ((0, 1, 2, 0, 1), (0, 1, 3, 3, 4)))
        plain = run_of(DUO, (), MUTE, 3)
        self.same((is_run(DUO, (), MUTE, plain), is_run(DUO, ECHO, MUTE, plain)), (True, False))

    def test_cones(self):
        told = seeds_of(DUO, (), ECHO, 4), cone_of(DUO, (), ECHO, 5)
        self.same(told, ((("b", 2), ("b", 3)), (("b", ((2, 5),)),)))
        anew = ((1, None, ("anew", "a")),)
        told = seeds_of(DUO, (), ((0, None, ("anew", "a")),), 9), cone_of(DUO, (), anew, 4)
        self.same(told, ((), (("a", ((1, 4),)), ("b", ((1, 4),)))))
        self.same(cone_by_segments(DUO, (), anew, 4), told[1])
        one, other = free_runs(DUO, (), ECHO, 3)
        self.same((one[0] == other[0], one[1][1][:2] == other[1][1][:2], one[1][1][2] == other[1][1][2]), (True, True, False))

    def test_what_hangs_on_what(self):
        self.same(hangs_on(DUO, (), "b", 1), (("a", 0), ("a", 1), ("b", 0), ("b", 1)))
        self.same(touched_by(DUO, ECHO, "b", 1, 4), (("b", 1), ("b", 2), ("b", 3)))
        self.same(sure_until(FED, (), (0, 3, 0, 0), 9), (("f", 3), ("g", 5)))

    def test_reach_and_needs(self):
        self.same(reach_of(FED, (), (("f", 1), ("z", 7)), ("z",), (0, 3, 0, 0), 9), (("f", 3), ("g", 5), ("z", 7)))
        self.same(needs_of(FED, (), (("f", 1),), "g", 6), (("f", 4), ("g", 6)))
        self.same(channels_needed(FED, (), (("f", 0, 4), ("g", 0, 6))), (0, 4, 0, 0))


class Engines(Case):
    def test_what_is_taken_and_what_is_refused_as_heard(self):
        for heard in (2, 3):
            engine = Engine(DUO, ("b",))
            pull(engine, heard)
            if heard == 2:
                self.same(engine.change(*ECHO[0][::2]), ())
            else:
                self.raises(Heard, ("b", 2), engine.change, *ECHO[0][::2])

    def test_at_work(self):
        engine = Engine(DUO, ("b",))
        self.same((engine.names(), engine.front("b"), engine.heard()), (("a", "b"), 0, 0))
        studio = Engine(((("m", ("feed", 0, (0,), ())),), ()), ("m",))
        self.same((studio.give(0, (5, -6)), studio.shut(0), studio.begin(0, "m", 3), studio.end(0)), (None, None, 0, True))
        self.same(studio.hear(3), ((5,), (-6,), (0,)))
        self.same((engine.begin(0, "a", 3), engine.end(0), engine.ready("b", 2)), (0, True, (1, 1)))
        self.same((engine.begin(1, "b", 1), engine.end(1), engine.begin(1, "b", 1), engine.end(1)), (0, True, 1, True))
        self.same(engine.hear(2), ((0,), (1,)))
        told = engine.begin(2, "b", 1), engine.change(2, ("wire", "b", 0, "a", 1)), engine.busy()
        self.same(told, (2, (), ((2, "b", 2, 1, True),)))
        self.same((engine.begin(3, "b", 1), engine.end(3), engine.end(2), engine.worths("b", 0, 3)), (2, True, False, (0, 1, 2)))
        self.same((engine.undo(2), engine.undone()), ((("b", 2),), (("wire", "b", 0, "a", 1),)))
        engine.seal()
        self.same((engine.wanted("a"), engine.room("a"), engine.wanted("b"), engine.room("b")), (2, 1, 1, 1))
        told = engine.fronts(), engine.entries(), engine.amounts()
        self.same(told, ((("a", 3), ("b", 2)), ((2, 2, ("wire", "b", 0, "a", 1)),), (0, 0, 0, 0)))

    def test_saves(self):
        self.same(Engine(((), ()), ("a",)).save(), "((()())()()(sa;)(()()()())(ffff)i0;f()())")
        self.same(loaded("((()())()()(sa;)(()()()())(ffff)i0;f((sa;i2;))())").hear(1), ((0,),))

    def test_workings(self):
        engine = Engine(DUO, ("b",))
        self.same(steps_left(engine, 3, (1, 2), 2), (("begin", 0, "a", 1), ("begin", 0, "a", 2)))
        self.same(worked(engine, 3, (1,), (1, 2), 2), 5)

    def test_rounds_needs_pulls_and_sounds(self):
        engine = Engine(DUO, ("b",))
        self.same((buffer_now(engine), go_rounds(engine, (1, 2))), (1, 4))
        self.raises(LongBuffer, (1,), go_rounds, Engine(DUO, ("b",)), (1, 3))
        self.same(needed_now(engine, "b", 3), (("a", 3), ("b", 3)))
        self.same(go_ahead(engine, "a", 4), (("a", 4),))
        self.same(pull(engine, 3), ((0,), (1,), (3,)))
        self.same(frozen_deed(engine, "b", 1, 3), ("all", (("put", "b", "roll", ((1, 3),), ()), ("anew", "b"))))
        self.same(reach_now(engine, ("a",), 9), (("a", 4), ("b", 4)))


class Devices(Case):
    def test_lags_and_lines(self):
        self.same(least_lags(("a", "b"), (("a", "b", 0), ("b", "a", 3)), (("a", 1), ("b", 2))), ("lags", (1, 3)))
        self.same(line_lengths(("f", "g"), (("f", "g", 2),), (("f", 1),), (), (0, 0)), ((("f", 2),), ((1, 0),)))

    def test_device(self):
        device, zero = Device(DUO, ECHO, (("b", 1),), ("b",), (0, 1)), (0, 0, 0, 0)
        self.same((device.tick(zero), device.tick(zero), device.tick(zero)), ((0,), (0,), (1,)))

    def test_sounds(self):
        self.same(show_sound((0, 0, -5)), "sound 3 0*2 -5*1")


class Desks(Case):
    def test_rows(self):
        self.same(whole_rows("seal\n\nfront b\nbus"), ("seal", "", "front b"))
        self.same((is_command("begin -7 B! 3"), is_command("begin 0 b 03"), is_command("begin 0  b 3")), (True, False, False))

    def test_desk(self):
        desk = Desk()
        told = desk.do("names"), desk.do("name"), desk.do("new b " + text_of(DUO)), desk.do("names")
        self.same(told, ("no Engine", "no Unknown", "ok", "ok a b"))
        self.same((desk.do("begin 0 b 1"), desk.do("work 3 1 1 0"), desk.do("hear 2")), ("no NotReady 0 0", "ok 6", "ok 0 1"))
        told = desk.do("change 2 (swire;sb;i0;sa;i1;)"), desk.do("hear 1"), desk.do("pull 1"), desk.do("undo 2")
        self.same(told, ("ok b:2", "no NotYet b", "ok 2", "no Heard b 2"))
        told = desk.do("lags b:1"), desk.do("lags b:2"), desk.do("buffer"), desk.do("lags b:0")
        self.same(told, ("ok a:0 b:1", "no Ring b", "ok 1", "no NotUsable late -1"))
        self.same(revived("seal\nsea").journal(), "seal\n")
