"""The interface: what is imported from which file, and by which parameters it is called."""

import importlib
import inspect

from helpers import Case

INTERFACE = {
    "kinds": {
        "is_integer": "thing", "is_number": "thing", "is_name": "thing", "is_worth": "thing", "is_sound": "thing",
        "is_quotient": "thing", "is_mode": "thing", "is_text": "thing",
    },
    "wholes": {"clip": "value", "turned": "value many mode"},
    "quotients": {
        "quotient_of": "top bottom", "plus": "one other", "minus": "one other", "times": "one other",
        "over": "one other", "less": "one other", "floor_of": "quotient",
    },
    "draws": {"draw": "value", "drawn": "value peak", "leap_draw": "value many"},
    "curves": {"is_points": "thing", "curve_at": "points pos"},
    "tempos": {"is_tempo": "thing", "time_of": "tempo beat", "beat_of": "tempo time", "sample_of": "tempo beat"},
    "tunings": {"is_tuning": "thing", "ratio_at": "tuning key", "pitch_of": "tuning key"},
    "values": {"is_value": "thing"},
    "datatexts": {"text_of": "value"},
    "datareadings": {"value_of": "text"},
    "scorekinds": {"is_items": "thing", "is_score": "thing"},
    "lengths": {"items_length": "score items", "items_count": "score items"},
    "walking": {"walk_of": "score voice"},
    "windows": {"window_of": "score voice low high", "ahead_of": "score voice beat"},
    "scorenotes": {"notes_of": "score", "has_notes": "score"},
    "scoretexts": {"show_score": "name score"},
    "scorereadings": {"read_score": "text"},
    "boxkinds": {"kind_names": "", "is_kind": "thing", "inlets_of": "kind knobs", "shape_of": "kind knobs"},
    "knobkinds": {"is_knobs": "kind thing", "is_settled": "kind thing"},
    "states": {"start_of": "kind knobs", "is_state": "kind knobs thing"},
    "steps": {"one_step": "kind knobs state worths", "block_of": "kind knobs state columns many"},
    "leaps": {"leap_of": "kind knobs state many"},
    "ringkinds": {"are_names": "thing", "are_arrows": "names thing", "are_wires": "names thing", "is_roof": "names thing"},
    "ringsums": {
        "ring_sum": "names arrows roof", "height_ways": "names arrows roof", "least_ways": "names wires name",
    },
    "ringcheckers": {
        "lets_heights": "names arrows roof thing", "lets_ring": "names arrows roof thing",
        "lets_ways": "names arrows roof thing",
    },
    "orders": {"order_of": "names wires", "wires_round": "names wires most"},
    "partings": {"parting_of": "names wires", "is_parted": "names wires thing"},
    "buffers": {"greatest_buffer": "names wires"},
    "buffercheckers": {"lets_buffer": "names wires thing"},
    "slacks": {"are_weighted": "names thing", "least_slack": "names arrows"},
    "slackcheckers": {"lets_slack": "names arrows thing"},
    "projectkinds": {
        "is_box": "thing", "is_project": "thing", "is_fresh": "project", "freshened": "project",
        "reason_against": "project",
    },
    "projects": {
        "empty_project": "", "box_of": "project name", "names_of": "project", "wires_of": "project",
        "life_of": "project name", "settled_of": "project", "order_in": "project", "beside": "project other",
    },
    "deedkinds": {"is_deed": "thing"},
    "deeds": {"done": "project deed number"},
    "projecttexts": {"show_project": "name project"},
    "projectreadings": {"read_project": "text"},
    "histories": {
        "is_entries": "thing", "standing": "project entries sample", "sleeping": "project entries sample",
    },
    "segments": {"seams_of": "entries", "segments_of": "project entries"},
    "runs": {"run_of": "project entries given goal"},
    "fitting": {"is_run": "project entries given thing"},
    "cones": {"seeds_of": "project one other goal", "cone_of": "project one other goal"},
    "conestretches": {"cone_by_segments": "project one other goal"},
    "freeruns": {"free_runs": "project one other goal"},
    "hangings": {"hangs_on": "project entries name sample", "touched_by": "project entries name sample goal"},
    "sures": {"sure_until": "project entries amounts goal"},
    "reaches": {"reach_of": "project entries fronts still amounts goal"},
    "needs": {"needs_of": "project entries fronts name until", "channels_needed": "project entries spans"},
    "loading": {"loaded": "text"},
    "choices": {"steps_left": "engine goal sizes hands"},
    "driving": {"worked": "engine goal picks sizes hands"},
    "rounds": {"buffer_now": "engine", "go_rounds": "engine cuts"},
    "aheads": {"needed_now": "engine name until", "go_ahead": "engine name until"},
    "pulls": {"pull": "engine many"},
    "bounces": {"bounce": "engine name low high", "frozen_deed": "engine name low high"},
    "reachnow": {"reach_now": "engine still goal"},
    "evers": {
        "names_ever": "project entries", "wires_ever": "project entries", "feeds_ever": "project entries",
    },
    "lags": {"least_lags": "names wires late", "are_lags": "names wires late thing"},
    "lines": {"line_lengths": "names wires feeds late lags", "total_held": "names wires feeds late lags"},
    "linequestions": {
        "line_question": "names wires feeds late ears lag", "least_lines": "names wires feeds late ears lag",
        "lets_lines": "names wires feeds late ears lag thing",
    },
    "soundparts": {
        "cut": "sound low high", "joined": "sounds", "mixed": "parts", "faded": "sound points", "turned_back": "sound",
    },
    "spreads": {"spread": "sound many", "kept_each": "sound many"},
    "soundtexts": {"show_sound": "sound", "read_sound": "text"},
    "resampling": {"resampled": "sound up down weights", "steady": "up down weights"},
    "journals": {"whole_rows": "text"},
    "deskwords": {"is_command": "row"},
    "reviving": {"revived": "text"},
}
CLASSES = {
    ("engine", "Engine"): {
        "__init__": "project ears entries=", "give": "channel worths", "shut": "channel", "begin": "hand name many",
        "end": "hand", "drop": "hand", "ready": "name many", "hear": "many", "change": "sample deed", "undo": "sample",
        "redo": "sample", "seal": "", "wanted": "name", "room": "name", "worths": "name low high", "project": "",
        "entries": "", "undone": "", "ears": "", "given": "", "amounts": "", "heard": "", "sealed": "", "names": "",
        "front": "name", "fronts": "", "busy": "", "save": "",
    },
    ("device", "Device"): {
        "__init__": "project entries late ears lags", "tick": "given", "ticks": "", "lengths": "", "held": "",
    },
    ("resampling", "Resampler"): {"__init__": "up down weights", "push": "sound", "told": ""},
    ("desk", "Desk"): {"__init__": "", "do": "row", "journal": ""},
}


class Interface(Case):
    def test_each_function(self):
        for file, functions in INTERFACE.items():
            module = importlib.import_module("samesamples." + file)
            for name, told in functions.items():
                function = getattr(module, name)
                self.assertTrue(inspect.isfunction(function), name)
                self.assertEqual(function.__module__, "samesamples." + file)
                parameters = inspect.signature(function).parameters
                self.assertEqual(list(parameters), told.split(), name)
                for parameter in parameters.values():
                    self.assertEqual(parameter.kind, parameter.POSITIONAL_OR_KEYWORD)
                    self.assertIs(parameter.default, parameter.empty)

    def test_each_class(self):
        for (file, name), methods in CLASSES.items():
            one = getattr(importlib.import_module("samesamples." + file), name)
            self.assertTrue(inspect.isclass(one), name)
            self.assertEqual(one.__module__, "samesamples." + file)
            for method, told in methods.items():
                # Each method stands in the class itself.
                self.assertTrue(inspect.isfunction(vars(one).get(method)), f"{name}.{method}")
                parameters = list(inspect.signature(vars(one)[method]).parameters.values())[1:]
                words = [one.name + ("" if one.default is one.empty else "=") for one in parameters]
                self.assertEqual(words, told.split(), f"{name}.{method}")
                for parameter in parameters:
                    self.assertEqual(parameter.kind, parameter.POSITIONAL_OR_KEYWORD)
                    self.assertIn(parameter.default, (parameter.empty, ()))
