"""Engines beside a plain one, by drawn sequences of calls: all of stages 19 to 24, and (G1), (G2), (G5), (G7) of [11]."""

from samesamples.aheads import go_ahead, needed_now
from samesamples.bounces import bounce, frozen_deed
from samesamples.choices import steps_left
from samesamples.driving import worked
from samesamples.engine import Engine
from samesamples.loading import loaded
from samesamples.pulls import pull
from samesamples.reachnow import reach_now
from samesamples.rounds import buffer_now, go_rounds
from samesamples.scorenotes import has_notes
from engines import PlainEngine, answer
from helpers import Case, drawing
from histories import drawn_deed, drawn_entries
from projects import KINDS, let_project

FEW = ("mix", "mix", "mix", "feed", "clock", "peak", "gain", "latch")
MOST = tuple(kind for kind in KINDS if kind not in ("roll", "reel"))
FARTHEST = 17


class Pair:
    """An engine and a plain one, to which the same is done."""

    def __init__(self, case, source):
        self.case, self.source, self.seen, self.heard = case, source, set(), ()
        kinds = source.choice((FEW, FEW, MOST))
        project = let_project(source, has_notes, least=1, kinds=kinds)
        self.names = tuple(name for name, _ in project[0]) + ("ee",)
        self.told = {"names": self.names, "kinds": kinds}
        entries = drawn_entries(source, 3, 9, **self.told)
        ears = tuple(source.sample(self.names, source.randint(1, min(3, len(self.names)))))
        self.engine, self.plain = Engine(project, ears, entries), PlainEngine(project, ears, entries)

    def both(self, word, mine, others):
        """Look at what both answer, and then at all questions."""
        self.case.same(mine, others)
        self.seen.add((word, mine[1]) if mine[0] == "raises" else (word, mine[1] if isinstance(mine[1], bool) else None))
        if word in ("hear", "pull") and mine[0] == "returns":
            self.heard += mine[1]
        engine, plain = self.engine, self.plain
        self.case.same(engine.save(), plain.save())
        self.case.same(engine.names(), plain.names())
        for name in self.names + ("zz",):
            self.case.same((engine.wanted(name), engine.room(name)), (plain.wanted(name), plain.room(name)))
            low, high = plain.wanted(name), plain.front(name)
            self.case.same(engine.worths(name, low, high), plain.worths(name, low, high))

    def call(self, word, *args):
        plain = getattr(self.plain, "close" if word == "shut" else word)
        self.both(word, answer(getattr(self.engine, word), *args), answer(plain, *args))

    def step(self):
        source = self.source
        word = source.choice((
            "give", "give", "shut", "begin", "begin", "begin", "begin", "begin", "end", "end", "drop", "ready", "hear", "hear",
            "change", "change", "change", "undo", "redo", "seal", "worths", "load", "ahead", "pull", "rounds", "work", "steps",
            "reach", "needed",
        ))
        if word in ("shut", "seal") and source.random() < 0.8:
            return
        if word in ("begin", "work", "ahead", "pull", "rounds") and any(front + 3 > FARTHEST for _, front in self.plain.fronts()):
            return
        getattr(self, "do_" + word)()

    def name(self):
        return self.source.choice(self.names + ("zz",))

    def do_give(self):
        self.call("give", self.source.randint(0, 3), tuple(self.source.randint(-999, 999) for _ in range(self.source.randint(0, 6))))

    def do_shut(self):
        self.call("shut", self.source.randint(0, 3))

    def do_begin(self):
        self.call("begin", self.source.randint(0, 2), self.name(), self.source.choice((1, 1, 2, 3)))

    def do_end(self):
        self.call("end", self.source.randint(0, 2))

    def do_drop(self):
        self.call("drop", self.source.randint(0, 2))

    def do_ready(self):
        self.call("ready", self.name(), self.source.randint(1, 3))

    def do_hear(self):
        self.call("hear", self.source.choice((1, 1, 2)))

    def do_change(self):
        self.call("change", self.source.randint(0, 12), drawn_deed(self.source, **self.told))

    def do_undo(self):
        self.call("undo", self.source.randint(0, 12))
        if self.source.random() < 0.5:
            self.do_redo()

    def do_redo(self):
        self.call("redo", self.source.randint(0, 12))

    def do_seal(self):
        self.call("seal")

    def do_worths(self):
        name, low = self.name(), self.source.randint(0, 6)
        high = low + self.source.randint(0, 4)
        self.call("worths", name, low, high)
        told = answer(self.plain.worths, name, low, high)
        self.case.same(answer(bounce, self.engine, name, low, high), told)
        if name not in self.plain.history().standings[low][0]:
            told = ("raises", "NotUsable", "name", -1)
        elif told[0] == "returns":
            told = "returns", ("all", (("put", name, "roll", (told[1],), ()), ("anew", name)))
        self.case.same(answer(frozen_deed, self.engine, name, low, high), told)

    def do_load(self):
        self.engine = loaded(self.engine.save())
        self.both("load", ("returns", None), ("returns", None))

    def do_ahead(self):
        name, until = self.name(), self.source.randint(0, 12)
        self.both("ahead", answer(go_ahead, self.engine, name, until), answer(self.plain.go_ahead, name, until))

    def do_needed(self):
        name, until = self.name(), self.source.randint(0, 12)
        self.both("needed", answer(needed_now, self.engine, name, until), answer(self.plain.needed_now, name, until))

    def do_pull(self):
        many = self.source.randint(1, 3)
        self.both("pull", answer(pull, self.engine, many), answer(self.plain.pull, many))

    def do_rounds(self):
        front = max(self.plain.worked.values(), default=0)
        cuts = (front + self.source.randint(1, 2),)
        cuts += (cuts[0] + self.source.randint(1, 2),) if self.source.random() < 0.5 else ()
        self.both("rounds", answer(go_rounds, self.engine, cuts), answer(self.plain.go_rounds, cuts))
        self.case.same(buffer_now(self.engine), self.plain.buffer_at(max(self.plain.worked.values(), default=0)))

    def do_work(self):
        goal, hands = self.source.randint(0, 12), self.source.randint(1, 3)
        picks = tuple(self.source.randint(0, 9) for _ in range(self.source.randint(1, 4)))
        sizes = self.source.choice(((1,), (1, 2), (1, 3, 4)))
        reach = reach_now(self.engine, (), goal)
        told = answer(worked, self.engine, goal, picks, sizes, hands)
        self.both("work", told, answer(self.plain.do_worked, goal, picks, sizes, hands))
        # [11] (G5), [92]
        self.case.same(self.engine.busy(), ())
        self.case.same(tuple((name, self.engine.front(name)) for name, _ in reach), reach)

    def do_steps(self):
        args = 9, self.source.choice(((1,), (1, 2, 3))), self.source.randint(1, 3)
        self.both("steps", answer(steps_left, self.engine, *args), answer(self.plain.steps_left, *args))

    def do_reach(self):
        still = tuple(self.source.sample(self.names, self.source.randint(0, min(2, len(self.names)))))
        goal = self.source.randint(0, 12)
        self.both("reach", answer(reach_now, self.engine, still, goal), answer(self.plain.reach_now, still, goal))


    def check_heard(self):
        """[11] (G1): what was heard on the way is what the ears tell in the run of the history that stands at the end."""
        run = self.plain.run()
        told = tuple(tuple(run.get((ear, sample), (None, 0))[1] for ear in self.plain.ears) for sample in range(len(self.heard)))
        self.case.same(self.heard, told)
        return len(told)


class Drawn(Case):
    def test_drawn_calls(self):
        seen, heard = set(), 0
        for seed in range(100):
            pair = Pair(self, drawing(seed))
            for _ in range(60):
                pair.step()
            seen |= pair.seen
            heard += pair.check_heard()
        self.assertTrue(heard > 200, heard)
        for one in (
            ("end", True), ("end", False), ("end", "NoSlip"), ("begin", "HandBusy"), ("begin", "NoName"), ("begin", "NameTaken"),
            ("begin", "NotReady"), ("hear", "NotYet"), ("change", "Heard"), ("change", "NotLet"), ("change", "Sealed"), ("undo", "Heard"),
            ("undo", "NothingToUndo"), ("redo", None), ("redo", "NothingToRedo"), ("redo", "NotLet"), ("worths", "Gone"),
            ("worths", "NotYet"), ("ahead", "NotGiven"), ("ahead", "HandBusy"), ("pull", "NotGiven"), ("rounds", "Uneven"),
            ("rounds", "AcrossSeam"), ("rounds", "LongBuffer"), ("rounds", "NotGiven"), ("rounds", None), ("give", "Shut"),
        ):
            self.assertIn(one, seen)
