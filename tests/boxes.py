"""Boxes for the tests: drawn knobs and states of each kind, and plain steps reckoned from the document's words."""

from fractions import Fraction
from math import floor, trunc

TOP = 1048575
ONE = 4096
MODES = ("down", "near", "zero")
RULES = ("oldest", "softest", "same", "never")

# Right knobs for each kind, most at the ends of their ranges.
KNOBS = {
    "level": [(0,), (TOP,), (-TOP,)],
    "feed": [(0,), (3,)],
    "clock": [(0, 0, 3), (0, 0, 0), (TOP, TOP, TOP), (5, 2, TOP), (0, 9, 4), (3, 3, 3)],
    "noise": [(0, 0), (2 ** 32 - 1, TOP), (7, 1)],
    "wave": [((0,), 0, 1), ((TOP, -TOP) * 32, 2 ** 20, 4096), ((1, 5, -9), -2 ** 20, 7)],
    "roll": [((),), ((3, -4),), ((TOP, -TOP) * 300,)],
    "reel": [((), 0, 1), ((TOP, -TOP) * 300, 2 ** 20, 4096), ((9, -4, 7), 3, 2)],
    "mix": [((), 0), ((), TOP), ((65536, -65536) * 4, -TOP), ((4096, 4096), 0)],
    "gain": [(mode,) for mode in MODES],
    "cross": [(mode,) for mode in MODES],
    "fence": [(0,), (TOP,), (5,)],
    "punch": [(0, 0), (TOP, TOP), (0, TOP), (7, 3)],
    "latch": [()],
    "curve": [(((0, 0),),), (((-TOP, TOP), (TOP, -TOP)),), (tuple((at, at) for at in range(64)),)],
    "tape": [((), 0), ((TOP, -TOP) * 300, TOP), ((4, 5), 3)],
    "smooth": [(pull, mode) for pull in (0, 1, 2048, ONE) for mode in MODES],
    "second": [(0, 0, 0, 0, 0, "zero"), (65536, -65536, 65536, -65536, 65536, "near"), (900, 700, 1, -5000, 1500, "down")],
    "taps": [((0,),), ((65536, -65536) * 8,), ((4096, 2048, -1),)],
    "press": [(0, 0, 1, 0, 0), (TOP, 4096, 4096, ONE, ONE), (100, 1, 4, 2048, 17), (0, 1, 1, ONE, 0)],
    "peak": [(1,), (256,), (3,)],
    "mean": [(1,), (256,), (3,)],
    "voices": [("s", 1, "oldest", (0,), 1, 1), ("abcdefghijkl", 16, "never", (TOP, -TOP) * 32, 4096, 4096),
               ("s", 2, "softest", (5, 9), 3, 2), ("s", 3, "same", (1,), 1, 4096)],
}

NOTES = ((0, 1, 1, 0), (0, 9, 2 ** 20, ONE), (7, 10 ** 9, 4096, 1), (10 ** 9, 1, 5, 5))

INLETS = {
    "wave": 1, "gain": 2, "cross": 3, "fence": 1, "punch": 3, "latch": 2, "curve": 1, "tape": 1, "smooth": 1, "second": 1,
    "taps": 1, "press": 2, "peak": 1, "mean": 1, "voices": 1,
}

# How each kind of states is bounded: kinds whose state is a single number, by the greatest one.
GREATEST = {"clock": TOP, "press": TOP, "roll": 2 ** 20, "reel": 2 ** 32, "noise": 2 ** 32 - 1}


def settled(kind, knobs, notes=NOTES):
    """The knobs, with notes in the place of a score's name."""
    return (notes,) + knobs[1:] if kind == "voices" else knobs


def all_settled():
    """Each kind with each of its knobs, settled."""
    return [(kind, settled(kind, knobs)) for kind, rows in KNOBS.items() for knobs in rows]


def inlets(kind, knobs):
    return len(knobs[0]) if kind == "mix" else INLETS.get(kind, 0)


def columns(kind, knobs):
    return 1 if kind == "feed" else inlets(kind, knobs)


def drawn_worth(source):
    size = source.choice((3, 100, 5000, TOP))
    return source.choice((-TOP, TOP, source.randint(-size, size), source.randint(-size, size), source.randint(0, 12)))


def drawn_weight(source):
    return source.choice((0, ONE, -65536, 65536, source.randint(-ONE, ONE), source.randint(-65536, 65536)))


def drawn_knobs(source, kind):
    """Settled knobs of the kind."""
    def worths(low, high):
        return tuple(drawn_worth(source) for _ in range(source.randint(low, high)))

    def number(high):
        return source.choice((0, high, source.randint(0, high), source.randint(0, min(high, 20))))

    mode = source.choice(MODES)
    if kind == "wave":
        return worths(1, 7), source.randint(-30, 30), source.randint(1, 9)
    if kind == "reel":
        return worths(0, 9), source.randint(0, 7), source.randint(1, 5)
    if kind == "mix":
        return tuple(drawn_weight(source) for _ in range(source.randint(0, 8))), drawn_worth(source)
    if kind == "curve":
        places = sorted(source.sample(range(-20, 21), source.randint(1, 6)))
        return (tuple((place, drawn_worth(source)) for place in places),)
    if kind == "taps":
        return (tuple(drawn_weight(source) for _ in range(source.randint(1, 16))),)
    if kind == "press":
        den = source.choice((1, 4096, source.randint(1, 9)))
        return number(TOP), source.randint(0, den), den, number(ONE), number(ONE)
    if kind == "voices":
        onsets = sorted(source.randint(0, 12) for _ in range(source.randint(0, 14)))
        notes = tuple((onset, source.randint(1, 9), source.choice((1, 4096, 5000, 2 ** 20)), number(ONE)) for onset in onsets)
        return notes, source.randint(1, 4), source.choice(RULES), worths(1, 5), source.randint(1, 6), source.randint(1, 6)
    return {
        "level": (drawn_worth(source),), "feed": (source.randint(0, 3),), "clock": (number(TOP), number(TOP), number(TOP)),
        "noise": (number(2 ** 32 - 1), number(TOP)), "roll": (worths(0, 9),), "gain": (mode,), "cross": (mode,),
        "fence": (number(TOP),), "punch": (number(TOP), number(TOP)), "latch": (), "tape": (worths(0, 9), number(TOP)),
        "smooth": (number(ONE), mode), "second": tuple(drawn_weight(source) for _ in range(5)) + (mode,),
        "peak": (source.randint(1, 9),), "mean": (source.randint(1, 9),),
    }[kind]


def drawn_state(source, kind, knobs):
    """A state of these knobs."""
    if kind in GREATEST:
        return source.choice((0, GREATEST[kind], source.randint(0, GREATEST[kind]), source.randint(0, 20)))
    if kind == "wave":
        return source.randrange(len(knobs[0]) * knobs[2])
    if kind in ("smooth", "latch"):
        return drawn_worth(source)
    if kind == "voices":
        span = len(knobs[3]) * ONE
        return tuple(
            (source.choice((1, 4096, 5000, 2 ** 20)), source.randrange(span), source.randint(0, 9), source.randint(1, 9),
             source.choice((0, ONE, source.randint(0, ONE)))) for _ in range(source.randint(0, knobs[1]))
        )
    many = kept(kind, knobs)
    if many is None:
        return 0
    worths = tuple(drawn_worth(source) for _ in range(many))
    return tuple(abs(worth) for worth in worths) if kind == "peak" else worths


def kept(kind, knobs):
    """How many worths the state keeps; None if it is no tuple of worths."""
    if kind == "second":
        return 4
    if kind == "taps":
        return len(knobs[0]) - 1
    return knobs[0] - 1 if kind in ("peak", "mean") else None


def plain_turned(top, bottom, mode):
    exact = Fraction(top, bottom)
    return {"down": floor(exact), "near": floor(exact + Fraction(1, 2)), "zero": trunc(exact)}[mode]


def plain_clip(value):
    return sorted((-TOP, value, TOP))[1]


def between(worth, later, part, den):
    return worth + floor(Fraction((later - worth) * part, den))


def plain_maker(kind, knobs, state, worths):
    if kind == "level":
        return state, knobs[0]
    if kind == "feed":
        return state, worths[0]
    if kind == "clock":
        return (knobs[1] if state + 1 == knobs[2] else TOP if state == TOP else state + 1), state
    if kind == "noise":
        value = (1664525 * state + 1013904223) % 2 ** 32
        return value, value * (2 * knobs[1] + 1) // 2 ** 32 - knobs[1]
    sound = list(knobs[0])
    if kind == "roll":
        return min(state + 1, 2 ** 20), (sound + [0] * (2 ** 20 + 1))[state] if state < len(sound) else 0
    at, part = state // knobs[2], state % knobs[2]
    if kind == "wave":
        end = len(sound) * knobs[2]
        return (state + knobs[1] + worths[0]) % end, between(sound[at], (sound + sound)[at + 1], part, knobs[2])
    sound = sound + [0, 0]
    told = between(sound[at], sound[at + 1], part, knobs[2]) if at < len(sound) - 1 else 0
    return min(state + knobs[1], 2 ** 32), told


def plain_shaper(kind, knobs, state, worths):
    if kind == "mix":
        total = sum(weight * worth for weight, worth in zip(knobs[0], worths))
        return state, plain_clip(plain_turned(total, ONE, "near") + knobs[1])
    if kind == "gain":
        return state, plain_clip(plain_turned(worths[0] * worths[1], ONE, knobs[0]))
    if kind == "cross":
        a, b, c = worths
        return state, a + plain_turned((b - a) * sorted((0, c, ONE))[1], ONE, knobs[0])
    if kind == "fence":
        return state, sorted((-knobs[0], worths[0], knobs[0]))[1]
    if kind == "punch":
        return state, worths[2] if worths[0] in range(knobs[0], knobs[1]) else worths[1]
    if kind == "latch":
        return (worths[0], worths[0]) if worths[1] > 0 else (state, state)
    if kind == "curve":
        points, pos = knobs[0], worths[0]
        below = [point for point in points if point[0] <= pos] or [points[0]]
        above = [point for point in points if point[0] > pos] or [points[-1]]
        (p, v), (q, w) = below[-1], above[0]
        return state, v if p >= pos or q <= pos else between(v, w, pos - p, q - p)
    return state, dict(enumerate(knobs[0])).get(worths[0] - knobs[1], 0)


def plain_filter(kind, knobs, state, worths):
    x = worths[0]
    if kind == "smooth":
        y = state + plain_turned((x - state) * knobs[0], ONE, knobs[1])
        return y, y
    if kind == "second":
        (x1, x2, y1, y2), (b0, b1, b2, a1, a2, mode) = state, knobs
        y = plain_clip(plain_turned(b0 * x + b1 * x1 + b2 * x2 - a1 * y1 - a2 * y2, ONE, mode))
        return (x, x1, y, y1), y
    if kind == "press":
        edge, num, den, rise, fall = knobs
        key, e = abs(worths[1]), state
        e = e + floor(Fraction((key - e) * rise, ONE)) if key > e else e - floor(Fraction((e - key) * fall, ONE))
        return e, x if e <= edge else plain_turned(x * (edge + floor(Fraction((e - edge) * num, den))), e, "zero")
    line = [abs(x) if kind == "peak" else x] + list(state)
    if kind == "taps":
        told = plain_clip(plain_turned(sum(a * b for a, b in zip(knobs[0], line)), ONE, "near"))
    else:
        told = max(line) if kind == "peak" else plain_turned(sum(line), knobs[0], "near")
    return tuple(line[:-1]), told


def plain_strength(knobs, voice):
    _, _, _, _, attack, release = knobs
    _, _, age, left, loud = voice
    up = ONE * min(age + 1, attack) // attack
    return up * min(left, release) // release * loud // ONE


def plain_voices(knobs, state, worths):
    notes, most, rule, table, _, _ = knobs
    voices = list(state)
    for onset, length, pitch, loud in notes:
        if onset == worths[0]:
            if len(voices) == most and rule == "never":
                continue
            if len(voices) == most:
                gone = 0
                if rule == "softest":
                    gone = min(range(most), key=lambda at: (plain_strength(knobs, voices[at]), at))
                if rule == "same":
                    gone = min([at for at in range(most) if voices[at][0] == pitch] or [0])
                del voices[gone]
            voices.append((pitch, 0, 0, length, loud))
    total = 0
    for voice in voices:
        at, part = voice[1] // ONE, voice[1] % ONE
        total += floor(Fraction(between(table[at], (table + table)[at + 1], part, ONE) * plain_strength(knobs, voice), ONE))
    moved = [(p, (phase + p) % (len(table) * ONE), age + 1, left - 1, loud) for p, phase, age, left, loud in voices]
    return tuple(voice for voice in moved if voice[3] != 0), plain_clip(total)


def plain_step(kind, knobs, state, worths):
    """One step, as the document's words tell it."""
    if kind == "voices":
        return plain_voices(knobs, state, worths)
    if kind in ("level", "feed", "clock", "noise", "wave", "roll", "reel"):
        return plain_maker(kind, knobs, state, worths)
    if kind in ("mix", "gain", "cross", "fence", "punch", "latch", "curve", "tape"):
        return plain_shaper(kind, knobs, state, worths)
    return plain_filter(kind, knobs, state, worths)


def plain_block(kind, knobs, state, given, many):
    told = []
    for at in range(many):
        state, worth = plain_step(kind, knobs, state, tuple(column[at] for column in given))
        told.append(worth)
    return state, tuple(told)
