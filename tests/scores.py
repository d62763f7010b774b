"""Scores for the tests: the document's own, drawn ones, and a plain walk that leaves nothing out."""

from fractions import Fraction

from helpers import fraction, quotient

ONE = 4096

TEMPO = (((0, 1), (5, 2)), ((2, 1), (3, 1)))
TUNING = (4096, ((3, 2), (2, 1)))
PHRASES = (("a", (("loud", 1024), ("note", 1, (1, 2)))),)
PART = (("note", 0, (1, 1)), ("times", 2, (("call", "a", 1),)), ("by", (1, 2), (("note", 0, (1, 1)),)))
SONG = (TEMPO, TUNING, PHRASES, (("v", PART),))

NOTE = ("note", 0, (1, 1))
REST = ("rest", (1, 1))
MANY = 10 ** 9


def song(*voices, phrases=(), tempo=(((0, 1), (1, 1)),), tuning=TUNING):
    """A score of these voices' items."""
    return tempo, tuning, tuple(phrases), tuple((f"v{at}", items) for at, items in enumerate(voices))


def plain_events(score, items):
    """The events of the items, walked one by one."""
    events = []
    _walk(dict(score[2]), items, [Fraction(0)], Fraction(1), 0, [ONE], events)
    return tuple(events)


def plain_length(score, items):
    """The length of the items, walked one by one."""
    beat = [Fraction(0)]
    _walk(dict(score[2]), items, beat, Fraction(1), 0, [ONE], [])
    return quotient(beat[0])


def _walk(phrases, items, beat, scale, shift, loud, events):
    for item in items:
        word = item[0]
        if word == "note":
            events.append((quotient(beat[0]), quotient(fraction(item[2]) * scale), item[1] + shift, loud[0]))
            beat[0] += fraction(item[2]) * scale
        elif word == "rest":
            beat[0] += fraction(item[1]) * scale
        elif word == "loud":
            loud[0] = item[1]
        elif word == "call":
            _walk(phrases, phrases[item[1]], beat, scale, shift + item[2], [loud[0]], events)
        elif word == "times":
            for _ in range(item[1]):
                _walk(phrases, item[2], beat, scale, shift, [loud[0]], events)
        else:
            _walk(phrases, item[2], beat, scale * fraction(item[1]), shift, [loud[0]], events)


def drawn_beats(source):
    return quotient(Fraction(source.randint(1, 12), source.randint(1, 8)))


def drawn_items(source, names, deep=3, most=5):
    """Items that call only these names."""
    items = []
    for _ in range(source.randint(0, most)):
        word = source.choice(("note", "note", "rest", "loud", "call", "times", "by"))
        if word == "note":
            items.append(("note", source.randint(-4, 4), drawn_beats(source)))
        elif word == "rest":
            items.append(("rest", drawn_beats(source)))
        elif word == "loud":
            items.append(("loud", source.choice((0, 1, 17, ONE))))
        elif word == "call" and names:
            items.append(("call", source.choice(names), source.randint(-3, 3)))
        elif word == "times" and deep > 1:
            items.append(("times", source.randint(0, 3), drawn_items(source, names, deep - 1, most)))
        elif word == "by" and deep > 1:
            ratio = quotient(Fraction(source.randint(1, 16), source.randint(1, 16)))
            items.append(("by", ratio, drawn_items(source, names, deep - 1, most)))
    return tuple(items)


def drawn_score(source):
    """A score with a few phrases and voices."""
    beats = sorted({Fraction(0)} | {Fraction(source.randint(1, 40), source.randint(1, 8)) for _ in range(source.randint(0, 3))})
    tempo = tuple((quotient(beat), quotient(Fraction(source.randint(1, 20), source.randint(1, 9)))) for beat in beats)
    ratios = tuple(quotient(Fraction(source.randint(1, 9), source.randint(1, 9))) for _ in range(source.randint(1, 4)))
    names, phrases = [], []
    for name in ("a", "b1", "ccc")[:source.randint(0, 3)]:
        phrases.append((name, drawn_items(source, names)))
        names.append(name)
    voices = [(name, drawn_items(source, names)) for name in ("v", "a", "w")[:source.randint(1, 3)]]
    return tempo, (source.randint(1, 2 ** 20), ratios), tuple(phrases), tuple(voices)
