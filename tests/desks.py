"""A plain desk for the tests: rows by patterns, answers put together from the calls of an engine."""

import re

from samesamples.aheads import go_ahead
from samesamples.datareadings import value_of
from samesamples.datatexts import text_of
from samesamples.driving import worked
from samesamples.engine import Engine
from samesamples.errors import SoundError
from samesamples.histories import sleeping, standing
from samesamples.lags import least_lags
from samesamples.loading import loaded
from samesamples.projects import names_of, wires_of
from samesamples.pulls import pull
from samesamples.reachnow import reach_now
from samesamples.rounds import buffer_now, go_rounds
from histories import LAST

INT = "(?:0|-?[1-9][0-9]{0,59})"
NAME = "[^ ,:]+"
WORD = "[^ ]+"
COMMANDS = {
    "new": f"{NAME}(?:,{NAME})* {WORD}", "load": WORD, "give": f"{INT}(?: {INT})*", "shut": INT, "begin": f"{INT} {NAME} {INT}", "end": INT,
    "drop": INT, "change": f"{INT} {WORD}", "undo": INT, "redo": INT, "hear": INT, "pull": INT,
    "work": f"{INT} {INT} {INT}(?:,{INT})* {INT}(?:,{INT})*", "ahead": f"{NAME} {INT}", "reach": f"{INT}(?: {NAME})*",
    "rounds": f"(?:{INT}(?: {INT})*)?", "front": NAME, "buffer": "", "names": "", "busy": "", "seal": "", "save": "", "show": INT, "sleeping": INT,
    "lags": f"(?:{NAME}:{INT}(?: {NAME}:{INT})*)?",
}


def plain_command(row):
    """Whether the row is a command, by the patterns of the document."""
    word, blank, rest = row.partition(" ")
    if word not in COMMANDS or blank and not rest:
        return False
    return re.fullmatch(COMMANDS[word], rest) is not None


def pairs(told):
    return ["{}:{}".format(*pair) for pair in told]


class PlainDesk:
    def __init__(self):
        self.engine, self.rows = None, ""

    def do(self, row):
        self.rows += row + "\n"
        if not plain_command(row):
            return "no Unknown"
        word, *words = row.split(" ")
        if self.engine is None and word not in ("new", "load"):
            return "no Engine"
        try:
            told = getattr(self, "do_" + word)(*words)
        except SoundError as error:
            told = ["no", type(error).__name__] + list(vars(error).values())
        return " ".join(str(one) for one in told)

    def do_new(self, ears, data):
        project = value_of(data)
        self.engine = Engine(project, tuple(ears.split(",")))
        return ["ok"]

    def do_load(self, save):
        self.engine = loaded(save)
        return ["ok"]

    def do_give(self, channel, *worths):
        self.engine.give(int(channel), tuple(int(worth) for worth in worths))
        return ["ok"]

    def do_shut(self, channel):
        self.engine.shut(int(channel))
        return ["ok"]

    def do_begin(self, hand, name, many):
        return ["ok", self.engine.begin(int(hand), name, int(many))]

    def do_end(self, hand):
        return ["ok", {True: "laid", False: "struck"}[self.engine.end(int(hand))]]

    def do_drop(self, hand):
        self.engine.drop(int(hand))
        return ["ok"]

    def do_change(self, sample, deed):
        deed = value_of(deed)
        return ["ok"] + pairs(self.engine.change(int(sample), deed))

    def do_undo(self, sample):
        return ["ok"] + pairs(self.engine.undo(int(sample)))

    def do_redo(self, sample):
        return ["ok"] + pairs(self.engine.redo(int(sample)))

    def do_hear(self, many):
        return ["ok"] + [",".join(map(str, worths)) for worths in self.engine.hear(int(many))]

    def do_pull(self, many):
        return ["ok"] + [",".join(map(str, worths)) for worths in pull(self.engine, int(many))]

    def do_work(self, goal, hands, sizes, picks):
        sizes, picks = (tuple(int(one) for one in word.split(",")) for word in (sizes, picks))
        return ["ok", worked(self.engine, int(goal), picks, sizes, int(hands))]

    def do_ahead(self, name, until):
        return ["ok"] + pairs(go_ahead(self.engine, name, int(until)))

    def do_reach(self, goal, *still):
        return ["ok"] + pairs(reach_now(self.engine, still, int(goal)))

    def do_rounds(self, *cuts):
        return ["ok", go_rounds(self.engine, tuple(int(cut) for cut in cuts))]

    def do_front(self, name):
        return ["ok", self.engine.front(name)]

    def do_buffer(self):
        told = buffer_now(self.engine)
        return ["ok", "any" if told is None else told]

    def do_names(self):
        return ["ok", *self.engine.names()]

    def do_busy(self):
        return ["ok"] + ["{}:{}:{}:{}:{}".format(*slip[:4], "struck" if slip[4] else "open") for slip in self.engine.busy()]

    def do_seal(self):
        self.engine.seal()
        return ["ok"]

    def do_save(self):
        return ["ok", self.engine.save()]

    def do_show(self, sample):
        return ["ok", text_of(standing(self.engine.project(), self.engine.entries(), int(sample)))]

    def do_sleeping(self, sample):
        return ["ok", *sleeping(self.engine.project(), self.engine.entries(), int(sample))]

    def do_lags(self, *late):
        late = tuple((word.split(":")[0], int(word.split(":")[1])) for word in late)
        front = min(max([front for _, front in self.engine.fronts()], default=0), LAST - 1)
        one = standing(self.engine.project(), self.engine.entries(), front)
        word, told = least_lags(names_of(one), wires_of(one), late)
        if word == "ring":
            return ["no", "Ring"] + [wires_of(one)[place][0] for place in told]
        return ["ok"] + pairs(zip(names_of(one), told))
