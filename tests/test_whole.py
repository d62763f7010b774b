"""The whole program: calls by position and by name, asked twice [2], [12]; the plain meaning whatever the way [1], [11]."""

import importlib

from samesamples import errors
from samesamples.desk import Desk
from samesamples.device import Device
from samesamples.engine import Engine
from samesamples.lags import least_lags
from samesamples.loading import loaded
from samesamples.evers import names_ever, wires_ever
from samesamples.pulls import pull
from samesamples.resampling import Resampler
from samesamples.runs import run_of
from samesamples.scorenotes import has_notes
from helpers import Case, drawing
from histories import drawn_deed
from projects import DUO, ECHO, FED, MUTE, let_project
from scores import PART, SONG
from test_interface import CLASSES, INTERFACE

NAMES, WIRES, ARROWS = ("a", "b"), (("a", "b", 0), ("b", "a", 3)), (("a", "b", 2), ("b", "a", -1))
WEIGHTED = (("a", "b", 3, 1), ("b", "a", -1, 2))
POINTS = ((0, 0), (4, -10))
LINES = NAMES, WIRES, (("a", 0),), (("b", 2),), ("b",), 5


def engine():
    one = Engine(DUO, ("b",))
    pull(one, 3)
    return one


# What each function is asked; where there is no row, things of many kinds are asked about.
ASKED = {
    "clip": (2 ** 30,), "turned": (-7, 2, "near"), "quotient_of": (6, -4), "plus": ((1, 2), (2, 3)), "minus": ((1, 2), (2, 3)), "times": ((1, 2), (2, 3)),
    "over": ((1, 2), (2, 3)), "less": ((1, 2), (2, 3)), "floor_of": ((-3, 2),), "draw": (9,), "drawn": (9, 5), "leap_draw": (9, 2),
    "curve_at": (POINTS, 1), "time_of": (SONG[0], (3, 1)), "beat_of": (SONG[0], (3, 1)), "sample_of": (SONG[0], (3, 1)), "ratio_at": (SONG[1], 3),
    "pitch_of": (SONG[1], 1), "text_of": (SONG,), "value_of": ("(i0;(s;))",), "items_length": (SONG, PART), "items_count": (SONG, PART), "walk_of": (SONG, 0),
    "window_of": (SONG, 0, (1, 1), (2, 1)), "ahead_of": (SONG, 0, (2, 1)), "notes_of": (SONG,), "has_notes": (SONG,), "show_score": ("s", SONG),
    "read_score": ("score s\ntempo 0 1\ntuning 1 2\nvoice v :\nend\n",), "kind_names": (), "inlets_of": ("mix", ((1, 2), 0)), "shape_of": ("taps", ((1, 2),)),
    "is_knobs": ("mix", ((1, 2), 0)), "is_settled": ("voices", ((), 1, "never", (0,), 1, 1)), "start_of": ("taps", ((1, 2),)), "is_state": ("taps", ((1, 2),), (3,)),
    "one_step": ("smooth", (2048, "near"), 0, (5,)), "block_of": ("clock", (0, 0, 3), 0, (), 5), "leap_of": ("clock", (0, 0, 3), 0, 7),
    "are_arrows": (NAMES, ARROWS), "are_wires": (NAMES, WIRES), "is_roof": (NAMES, (0, None)), "ring_sum": (NAMES, ARROWS, (0, 5)),
    "height_ways": (NAMES, ARROWS, (0, 5)), "least_ways": (NAMES, WIRES, "a"), "lets_heights": (NAMES, ARROWS, (0, 5), (0, 2)),
    "lets_ring": (NAMES, (("a", "b", 0), ("b", "a", -3)), (0, None), (1, 0)), "lets_ways": (NAMES, ARROWS, (0, 5), ((), (0,))), "order_of": (NAMES, WIRES),
    "wires_round": (NAMES, WIRES, 3), "parting_of": (NAMES, (("a", "a", 0),)), "is_parted": (NAMES, (), None), "greatest_buffer": (NAMES, WIRES),
    "lets_buffer": (NAMES, WIRES, (3, ("a", "b"), (0, 1))), "are_weighted": (NAMES, WEIGHTED), "least_slack": (NAMES, WEIGHTED),
    "lets_slack": (NAMES, (("a", "b", 3, 0),), ((0, 1), (0,), 0)), "is_fresh": (DUO,), "freshened": (DUO,), "reason_against": (DUO,), "empty_project": (),
    "box_of": (DUO, "b"), "names_of": (DUO,), "wires_of": (DUO,), "life_of": (DUO, "b"), "settled_of": (DUO,), "order_in": (DUO,), "beside": (DUO, FED),
    "done": (DUO, ("anew", "a"), 4), "show_project": ("duo", DUO), "read_project": ("project p\nend\n",), "standing": (DUO, ECHO, 2), "sleeping": (DUO, ECHO, 2),
    "seams_of": (ECHO,), "segments_of": (DUO, ECHO), "run_of": (DUO, ECHO, MUTE, 5), "is_run": (DUO, ECHO, MUTE, ((), (), ())), "seeds_of": (DUO, (), ECHO, 4),
    "cone_of": (DUO, (), ECHO, 4), "cone_by_segments": (DUO, (), ECHO, 4), "free_runs": (DUO, (), ECHO, 4), "hangs_on": (DUO, (), "b", 1),
    "touched_by": (DUO, ECHO, "b", 1, 4), "sure_until": (FED, (), (0, 3, 0, 0), 9), "reach_of": (FED, (), (("f", 1),), ("z",), (0, 3, 0, None), 9),
    "needs_of": (FED, (), (("f", 1),), "g", 6), "channels_needed": (FED, (), (("f", 0, 4),)), "loaded": (Engine(DUO, ("b",)).save(),),
    "names_ever": (DUO, ECHO), "wires_ever": (DUO, ECHO), "feeds_ever": (FED, ()), "least_lags": LINES[:2] + LINES[3:4], "are_lags": LINES[:2] + LINES[3:4] + ((0, 2),),
    "line_lengths": LINES[:4] + ((0, 2),), "total_held": LINES[:4] + ((0, 2),), "line_question": LINES, "least_lines": LINES, "cut": ((5, 6, 7), 1, 2),
    "joined": (((5,), (6, 7)),), "mixed": ((((5,), 2), ((6, 7), 1)),), "faded": ((5, 6), POINTS), "turned_back": ((5, 6),), "spread": ((5, 6), 3),
    "kept_each": ((5, 6), 2), "show_sound": ((5, 5),), "read_sound": ("sound 2 5*2",), "resampled": ((5, 6), 3, 2, (4096, 1)), "steady": (3, 2, (4096, 1)),
    "whole_rows": ("a\nb",), "revived": ("names\nx",),
    "steps_left": (9, (1, 2), 2), "worked": (3, (1,), (1, 2), 2), "buffer_now": (), "go_rounds": ((4,),), "needed_now": ("b", 9), "go_ahead": ("b", 5), "pull": (2,),
    "bounce": ("b", 1, 3), "frozen_deed": ("b", 1, 3), "reach_now": (("a",), 9),
}
THINGS = (None, True, 0, 7, "a", "(n)", "names", (), (0, 1), DUO, SONG, ECHO, ("off", "a"), PART, MUTE, POINTS, [0, 1])


def shown(told):
    """What was told, with what engines and desks tell of themselves."""
    if isinstance(told, Engine):
        return told.save()
    return told.journal() if isinstance(told, Desk) else told


class Calls(Case):
    def asked(self, name, parameters):
        """The rows of arguments of which the function is asked."""
        if name in ASKED:
            return [ASKED[name]]
        if name == "lets_lines":
            least = importlib.import_module("samesamples.linequestions").least_lines(*LINES)
            return [LINES + (least[1:],)]
        self.assertEqual(len(parameters), 1, name)
        return [(thing,) for thing in THINGS]

    def test_by_position_and_by_name_and_twice(self):
        for file, functions in INTERFACE.items():
            module = importlib.import_module("samesamples." + file)
            for name, words in functions.items():
                parameters, function = words.split(), getattr(module, name)
                own = parameters[:1] == ["engine"]
                for args in self.asked(name, parameters):
                    told = []
                    for turn in range(4):
                        row = ((engine(),) if own else ()) + args
                        self.assertEqual(len(row), len(parameters), name)
                        told.append(shown(function(*row) if turn < 2 else function(**dict(zip(parameters, row)))))
                    self.same(told, [told[0]] * 4)

    def test_methods_by_name(self):
        one, other = engine(), engine()
        for word, args in (
            ("give", (1, (5, 6))), ("shut", (1,)), ("begin", (2, "a", 3)), ("end", (2,)), ("begin", (2, "a", 3)), ("drop", (2,)), ("ready", ("b", 1)),
            ("change", (3, ECHO[0][2])), ("undo", (4,)), ("redo", (5,)), ("worths", ("b", 0, 2)), ("wanted", ("b",)), ("room", ("b",)), ("front", ("b",)),
            ("begin", (3, "b", 1)), ("end", (3,)), ("hear", (1,)), ("seal", ()), ("wanted", ("a",)), ("room", ("a",)),
        ):
            names = CLASSES["engine", "Engine"][word].split()
            self.same(getattr(one, word)(*args), getattr(other, word)(**dict(zip(names, args))))
            self.same(one.save(), other.save())
        self.same(Resampler(up=2, down=1, weights=(4096,)).push(sound=(5,)), Resampler(2, 1, (4096,)).push((5,)))
        self.same(Desk().do(row="names"), Desk().do("names"))

    def test_what_was_passed_in_is_not_changed(self):
        # Lists that are refused, or looked at, stay as they are.
        things = [0, [1, 2], ("a", [3])]
        for file in ("kinds", "values", "scorekinds", "projectkinds", "deedkinds", "histories", "curves", "tempos", "tunings", "boxkinds", "deskwords"):
            module = importlib.import_module("samesamples." + file)
            for name in INTERFACE[file]:
                if name.startswith("is_") and INTERFACE[file][name] in ("thing", "row"):
                    self.assertIs(getattr(module, name)(things), False)
        self.assertEqual(things, [0, [1, 2], ("a", [3])])


class Errors(Case):
    def test_no_other_errors_than_those_listed(self):
        listed = {
            "SoundError", "PaperError", "UseError", "DeedError", "EngineError", "InvalidPaper", "NotUsable", "BadText", "KeyAway", "TooMany", "NotLet", "HandBusy",
            "NoName", "NameTaken", "NotReady", "NoSlip", "Sealed", "TooFar", "Shut", "Heard", "NothingToUndo", "NothingToRedo", "NotYet", "Gone", "NotGiven",
            "Uneven", "AcrossSeam", "LongBuffer",
        }
        self.assertEqual({name for name, thing in vars(errors).items() if isinstance(thing, type)}, listed)


class Meaning(Case):
    """[11] (G1), (G10), (G13): what an engine was heard with, what a device and a desk tell, is the plain run."""

    def drawn(self, source):
        kinds = ("mix", "mix", "mix", "feed", "clock", "latch", "peak", "smooth", "noise")
        one = let_project(source, has_notes, least=2, most=5, kinds=kinds, farthest=5)
        names = tuple(name for name, _ in one[0])
        given = tuple(tuple(source.randint(-2000, 2000) for _ in range(30)) for _ in range(4))
        return one, names, given, kinds

    def test_engines_devices_and_desks_tell_alike(self):
        source = drawing(1)
        checked = 0
        while checked < 30:
            one, names, given, kinds = self.drawn(source)
            engine = Engine(one, names[:2])
            for channel, sound in enumerate(given):
                engine.give(channel, sound)
            heard = ()
            while engine.heard() < 24:
                heard += pull(engine, source.randint(1, 6))
                try:
                    engine.change(source.randint(0, 28), drawn_deed(source, names=names, kinds=kinds, farthest=5))
                except (errors.NotLet, errors.Heard):
                    pass
                if source.random() < 0.3:
                    engine = loaded(engine.save())
                if source.random() < 0.2 and engine.heard() > 12 and not engine.sealed():
                    engine.seal()
                    break
            heard += pull(engine, 30 - engine.heard())
            entries = engine.entries()
            told_names, worths, _ = run_of(one, entries, given, 30)
            table = dict(zip(told_names, worths))
            run = tuple(tuple(table.get(name, (0,) * 30)[at] for name in names[:2]) for at in range(30))
            self.same(heard, run)
            word, lags = least_lags(names_ever(one, entries), wires_ever(one, entries), ())
            self.same(word, "lags")
            device = Device(one, entries, (), names[:2], lags)
            self.same(tuple(device.tick(tuple(sound[at] for sound in given)) for at in range(30)), run)
            desk = Desk()
            desk.do("load " + Engine(one, names[:2], entries).save())
            for channel, sound in enumerate(given):
                desk.do(f"give {channel} " + " ".join(map(str, sound)))
            self.same(desk.do("pull 30"), "ok " + " ".join(",".join(map(str, row)) for row in run))
            checked += 1
