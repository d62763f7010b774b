"""Walks and windows [25], [26], and what follows [27]."""

from samesamples.errors import TooMany
from samesamples.lengths import items_count, items_length
from samesamples.walking import walk_of
from samesamples.windows import ahead_of, window_of
from helpers import ANYTHING, Case, drawing, fraction, quotient
from scores import MANY, NOTE, ONE, REST, SONG, drawn_score, plain_events, song

FAR = (10 ** 40, 1)


def plain_window(score, voice, low, high):
    events = plain_events(score, score[3][voice][1])
    return tuple(event for event in events if fraction(low) <= fraction(event[0]) < fraction(high))


def drawn_beat(source, score, voice):
    """A beat near the voice's events, often just one of theirs."""
    events = walk_of(score, voice)
    if events and source.randint(0, 1):
        return source.choice(events)[0]
    return source.randint(0, 60), 1


def loud_song():
    """A voice that is loud in every way, and what its events' louds are."""
    soft = (("loud", 7), NOTE)
    items = (
        NOTE, ("times", 2, (NOTE, ("loud", 5), NOTE)), NOTE, ("loud", 9), ("by", (1, 2), soft), NOTE, ("call", "a", 3), NOTE,
        ("times", 1, (("loud", 1),)), NOTE, ("times", 3, ()), ("call", "b", 0), NOTE, ("loud", 0), NOTE,
    )
    louds = [ONE, ONE, 5, ONE, 5, ONE, 7, 9, 7, 9, 9, 9, 0]
    return song(items, phrases=[("a", soft), ("b", (("loud", 2), REST))]), louds


class Walks(Case):
    def test_song(self):
        self.same(walk_of(SONG, 0), plain_events(SONG, SONG[3][0][1]))
        self.same(walk_of(score=SONG, voice=0)[0], ((0, 1), (1, 1), 0, 4096))

    def test_drawn_scores(self):
        source = drawing(25)
        for _ in range(150):
            score = drawn_score(source)
            for voice, (_, items) in enumerate(score[3]):
                events = walk_of(score, voice)
                self.same(events, plain_events(score, items))
                self.assertEqual(len(events), items_count(score, items))
                end = fraction(items_length(score, items))
                for beat, beats, _, _ in events:
                    self.assertLessEqual(fraction(beat) + fraction(beats), end)

    def test_louds_come_back(self):
        score, louds = loud_song()
        self.same([event[3] for event in walk_of(score, 0)], louds)
        for at, event in enumerate(walk_of(score, 0)):
            self.same(window_of(score, 0, event[0], FAR)[0], event)
            self.same(ahead_of(score, 0, event[0]), at)

    def test_shifts_and_scales_come_back(self):
        inner = (("note", 1, (2, 1)), ("by", (3, 2), (("call", "a", -60),)), NOTE)
        score = song((("call", "b", 60), NOTE, ("by", (1, 3), inner), NOTE), phrases=[("a", (NOTE,)), ("b", inner)])
        self.same([event[2] for event in walk_of(score, 0)], [61, 0, 60, 0, 1, -60, 0, 0])
        beats = [(2, 1), (3, 2), (1, 1), (1, 1), (2, 3), (1, 2), (1, 3), (1, 1)]
        self.same([event[1] for event in walk_of(score, 0)], beats)
        self.same(walk_of(score, 0), plain_events(score, score[3][0][1]))

    def test_two_thousand_and_one_more(self):
        score = song((("times", 2000, (NOTE,)),), (("times", 2001, (NOTE,)),), (("times", MANY, (NOTE, NOTE)), NOTE))
        self.assertEqual(len(walk_of(score, 0)), 2000)
        self.same(walk_of(score, 0)[-1], ((1999, 1), (1, 1), 0, ONE))
        self.raises(TooMany, (2001,), walk_of, score, 1)
        self.raises(TooMany, (2 * MANY + 1,), walk_of, score, 2)

    def test_items_without_events_are_passed(self):
        empty = (REST,)
        for _ in range(6):
            empty = (("times", MANY, empty), ("times", MANY, ()), ("by", (1, 2), empty))
        silent = (("times", MANY, (("times", 0, (NOTE,)), REST)),)
        inside = (("times", 1, (("times", MANY, (("times", 1, (REST,)),)), NOTE)),)
        score = song(empty + (NOTE,), silent + (NOTE,), inside, phrases=[])
        for voice, items in enumerate((empty, silent, (("times", MANY, (REST,)),))):
            self.same(walk_of(score, voice), ((items_length(score, items), (1, 1), 0, ONE),))
            self.same(ahead_of(score, voice, items_length(score, items)), 0)
            self.same(ahead_of(score, voice, FAR), 1 if items_length(score, items)[0] < FAR[0] else 0)

    def test_deep_calls(self):
        phrases = [("p0", (NOTE,))]
        for at in range(1, 12):
            items = (("call", f"p{at - 1}", 1),)
            for _ in range(7):
                items = (("times", 1, items),)
            phrases.append((f"p{at}", items))
        items = (("call", "p11", 0), NOTE)
        score = song(items, phrases=phrases)
        self.same(walk_of(score, 0), plain_events(score, items))
        self.same(ahead_of(score, 0, (1, 1)), 1)

    def test_wrong_inputs(self):
        for thing in ANYTHING + (2,):
            if thing != 0 or isinstance(thing, bool):
                self.refuses("voice", walk_of, SONG, thing)
                self.refuses("voice", window_of, SONG, thing, None, None)
                self.refuses("voice", ahead_of, SONG, thing, None)
            if thing not in ((0, 1), (1, 2)) or isinstance(thing, list):
                self.refuses("low", window_of, SONG, 0, thing, None)
                self.refuses("high", window_of, SONG, 0, (0, 1), thing)
                self.refuses("beat", ahead_of, SONG, 0, thing)
        self.refuses("low", window_of, SONG, 0, (-1, 2), (-1, 2))
        self.refuses("high", window_of, SONG, 0, (1, 2), (-1, 2))
        self.refuses("beat", ahead_of, SONG, 0, (-1, 2))


class Windows(Case):
    def test_drawn_windows(self):
        source = drawing(26)
        for _ in range(150):
            score = drawn_score(source)
            for voice in range(len(score[3])):
                low, middle, high = sorted([drawn_beat(source, score, voice) for _ in range(3)], key=fraction)
                window = window_of(score, voice, low, high)
                self.same(window, plain_window(score, voice, low, high))
                self.same(window, window_of(score, voice, low, middle) + window_of(score, voice, middle, high))
                self.same(len(window), ahead_of(score, voice, high) - ahead_of(score, voice, low))
                self.same(ahead_of(score, voice, high), len(plain_window(score, voice, (0, 1), high)))
                self.same(window_of(score, voice, high, low), ())

    def test_low_at_below_above_high(self):
        self.same(window_of(SONG, 0, (1, 1), (1, 1)), ())
        self.same(window_of(SONG, 0, (2, 1), (1, 1)), ())
        self.same(window_of(SONG, 0, (1, 1), (10 ** 9 + 1, 10 ** 9)), walk_of(SONG, 0)[1:2])
        self.same(window_of(score=SONG, voice=0, low=(0, 1), high=FAR), walk_of(SONG, 0))
        self.same((ahead_of(SONG, 0, (0, 1)), ahead_of(SONG, 0, (1, 10 ** 9)), ahead_of(SONG, 0, FAR)), (0, 1, 4))

    def test_far_inside_of_repeats(self):
        inner = (NOTE, ("by", (1, 2), (("call", "a", 2),)), REST)
        items = (REST, ("times", MANY, (("times", 1, (("times", MANY, inner), NOTE)), ("times", 0, (NOTE,)))), NOTE)
        phrases = [("a", (("note", 5, (1, 1)), ("loud", 3), ("note", 6, (2, 1))))]
        score = song(items, phrases=phrases)
        once = (7, 2)
        round_beats = MANY * fraction(once) + 1
        start = 1 + 123456789 * round_beats
        events = 3 * MANY + 1
        self.same(ahead_of(score, 0, quotient(start)), 123456789 * events)
        low = start + 777 * fraction(once)
        self.same(ahead_of(score, 0, quotient(low)), 123456789 * events + 777 * 3)
        half = quotient(fraction((3, 2)) + low)
        three = ((quotient(low), (1, 1), 0, ONE), (quotient(low + 1), (1, 2), 7, ONE), (half, (1, 1), 8, 3))
        self.same(window_of(score, 0, quotient(low), quotient(low + 3)), three)
        self.raises(TooMany, (events * MANY + 1,), window_of, score, 0, (0, 1), FAR)
        self.raises(TooMany, (2001,), window_of, score, 0, (0, 1), quotient(1 + 667 * fraction(once)))
        self.assertEqual(len(window_of(score, 0, (1, 1), quotient(1 + 666 * fraction(once) + 1 + fraction((1, 2))))), 2000)

    def test_the_last_of_ten_to_the_nine(self):
        score = song((("times", MANY, (NOTE,)), ("times", 1, (("times", 1, (NOTE,)),))))
        low = (MANY - 1, 1)
        self.same(window_of(score, 0, low, FAR), ((low, (1, 1), 0, ONE), ((MANY, 1), (1, 1), 0, ONE)))
        self.same((ahead_of(score, 0, low), ahead_of(score, 0, (MANY, 1)), ahead_of(score, 0, FAR)), (MANY - 1, MANY, MANY + 1))

    def test_count_ahead_of_walking(self):
        score = song((("times", 2001, (NOTE,)),))
        self.raises(TooMany, (2001,), window_of, score, 0, (0, 1), (2001, 1))
        self.same(len(window_of(score, 0, (0, 1), (2000, 1))), 2000)
        self.same(len(window_of(score, 0, (1, 2), (2001, 1))), 2000)
        score = song((("times", MANY, (NOTE,)),))
        self.raises(TooMany, (2500,), window_of, score, 0, (700, 1), (3200, 1))
        self.same(len(window_of(score, 0, (700, 1), (2700, 1))), 2000)


class Consequences(Case):
    def walked(self, score, items):
        return walk_of((score[0], score[1], score[2], (("v", items),)), 0)

    def test_calls_are_shifted_items(self):
        source = drawing(27)
        for _ in range(60):
            score = drawn_score(source)
            for name, items in score[2]:
                told = self.walked(score, (("call", name, -2), NOTE))
                plain = self.walked(score, (("times", 1, items), NOTE))
                self.same(told[:-1], tuple((a, b, key - 2, loud) for a, b, key, loud in plain[:-1]))
                self.same(told[-1:], plain[-1:])

    def test_times_are_many_ones(self):
        source = drawing(28)
        for _ in range(60):
            score = drawn_score(source)
            items = score[3][0][1]
            for many in (0, 1, 3):
                self.same(self.walked(score, (("times", many, items),)), self.walked(score, (("times", 1, items),) * many))

    def test_by_in_by(self):
        source = drawing(29)
        for _ in range(60):
            score = drawn_score(source)
            items = score[3][0][1]
            told = self.walked(score, (("by", (2, 3), (("by", (3, 4), items),)),))
            self.same(told, self.walked(score, (("by", (1, 2), items),)))
