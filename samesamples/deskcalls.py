"""The calls that a desk's commands make of its engine, and the words of their answers."""

from samesamples.aheads import go_ahead
from samesamples.datareadings import value_of
from samesamples.datatexts import text_of
from samesamples.driving import worked
from samesamples.histories import sleeping, standing
from samesamples.lags import least_lags
from samesamples.projects import names_of, wires_of
from samesamples.pulls import pull
from samesamples.reachnow import reach_now
from samesamples.rounds import buffer_now, go_rounds, project_now


def called(engine, word, read):
    """The words of the answer to a command: its first word, and the list of what the others are read as."""
    call = _CALLS[word]
    return call(engine, read)


def _give(engine, read):
    engine.give(read[0], read[1])
    return ["ok"]


def _shut(engine, read):
    engine.shut(read[0])
    return ["ok"]


def _begin(engine, read):
    return ["ok", engine.begin(read[0], read[1], read[2])]


def _end(engine, read):
    return ["ok", "laid" if engine.end(read[0]) else "struck"]


def _drop(engine, read):
    engine.drop(read[0])
    return ["ok"]


def _change(engine, read):
    deed = value_of(read[1])
    return ["ok"] + _pairs(engine.change(read[0], deed))


def _undo(engine, read):
    return ["ok"] + _pairs(engine.undo(read[0]))


def _redo(engine, read):
    return ["ok"] + _pairs(engine.redo(read[0]))


def _hear(engine, read):
    return ["ok"] + _samples(engine.hear(read[0]))


def _pull(engine, read):
    return ["ok"] + _samples(pull(engine, read[0]))


def _work(engine, read):
    goal, hands, sizes, picks = read
    return ["ok", worked(engine, goal, picks, sizes, hands)]


def _ahead(engine, read):
    return ["ok"] + _pairs(go_ahead(engine, read[0], read[1]))


def _reach(engine, read):
    goal, still = read
    return ["ok"] + _pairs(reach_now(engine, still, goal))


def _rounds(engine, read):
    return ["ok", go_rounds(engine, read[0])]


def _front(engine, read):
    return ["ok", engine.front(read[0])]


def _buffer(engine, read):
    greatest = buffer_now(engine)
    return ["ok", "any" if greatest is None else greatest]


def _names(engine, read):
    return ["ok"] + list(engine.names())


def _busy(engine, read):
    slips = engine.busy()
    return ["ok"] + [f"{hand}:{name}:{low}:{many}:{_slip_word(struck)}" for hand, name, low, many, struck in slips]


def _seal(engine, read):
    engine.seal()
    return ["ok"]


def _save(engine, read):
    return ["ok", engine.save()]


def _show(engine, read):
    return ["ok", text_of(standing(engine.project(), engine.entries(), read[0]))]


def _sleeping(engine, read):
    return ["ok"] + list(sleeping(engine.project(), engine.entries(), read[0]))


def _lags(engine, read):
    project = project_now(engine)
    names, wires = names_of(project), wires_of(project)
    word, told = least_lags(names, wires, read[0])
    if word == "ring":
        return ["no", "Ring"] + [wires[place][0] for place in told]
    return ["ok"] + _pairs(list(zip(names, told)))


def _pairs(pairs):
    """A word NAME:NUMBER for each pair."""
    return [f"{name}:{number}" for name, number in pairs]


def _samples(samples):
    """A word for each sample, the worths of the ears with commas between them."""
    return [",".join([f"{worth}" for worth in worths]) for worths in samples]


def _slip_word(struck):
    return "struck" if struck else "open"


_CALLS = {
    "give": _give,
    "shut": _shut,
    "begin": _begin,
    "end": _end,
    "drop": _drop,
    "change": _change,
    "undo": _undo,
    "redo": _redo,
    "hear": _hear,
    "pull": _pull,
    "work": _work,
    "ahead": _ahead,
    "reach": _reach,
    "rounds": _rounds,
    "front": _front,
    "buffer": _buffer,
    "names": _names,
    "busy": _busy,
    "seal": _seal,
    "save": _save,
    "show": _show,
    "sleeping": _sleeping,
    "lags": _lags,
}
