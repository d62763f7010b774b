"""The notes of scores [28], and what follows [31]."""

from fractions import Fraction
from math import floor

from samesamples.errors import KeyAway, TooMany
from samesamples.scorenotes import has_notes, notes_of
from samesamples.tempos import sample_of
from samesamples.quotients import plus
from samesamples.tunings import pitch_of
from samesamples.walking import walk_of
from helpers import Case, drawing, fraction
from scores import MANY, NOTE, ONE, REST, SONG, drawn_score, plain_events, song
from test_tempos import plain_time
from test_tunings import plain_ratio


def plain_notes(score):
    """The notes, reckoned with fractions; the first key that is away, if there is one."""
    notes = []
    for voice, (_, items) in enumerate(score[3]):
        for at, (beat, beats, key, loud) in enumerate(plain_events(score, items)):
            onset = floor(plain_time(score[0], fraction(beat)))
            end = floor(plain_time(score[0], fraction(beat) + fraction(beats)))
            pitch = floor(score[1][0] * plain_ratio(score[1], key))
            if not -8 <= key // len(score[1][1]) <= 8 or not 1 <= pitch <= 2 ** 20:
                return key
            if end > onset:
                notes.append((onset, voice, at, (onset, end - onset, pitch, loud)))
    return tuple(note for _, _, _, note in sorted(notes))


class Notes(Case):
    def test_drawn_scores(self):
        source = drawing(28)
        told = 0
        for _ in range(200):
            score = drawn_score(source)
            plain = plain_notes(score)
            if isinstance(plain, tuple):
                told += 1
                self.same(notes_of(score), plain)
                self.assertIs(has_notes(score), True)
            else:
                self.raises(KeyAway, (plain,), notes_of, score)
                self.assertIs(has_notes(score), False)
        self.assertTrue(20 < told < 190)

    def test_no_note(self):
        for score in (song(()), song((REST,), ()), song((("times", MANY, (REST,)),))):
            self.same(notes_of(score), ())
            self.assertIs(has_notes(score), True)
        self.same(notes_of(score=SONG)[0], (0, 2, 4096, 4096))
        self.same(has_notes(score=SONG), True)

    def test_notes_of_length_nought_are_left_out(self):
        short = ("note", 0, (1, 64))
        slow = (((0, 1), (1, 64)), ((1, 1), (32, 1)))
        score = song((short,) * 128, tempo=slow)
        # Behind beat 1 a note takes half a sample: each second one goes across a whole one.
        self.same(notes_of(score), tuple((at, 1, 4096, ONE) for at in range(32)))
        self.same(notes_of(song((short,), tempo=slow)), ())
        self.assertIs(has_notes(song((short,), tempo=slow)), True)

    def test_sequence_of_onset_voice_walk(self):
        def line(loud, *beats):
            return (("loud", loud),) + tuple(("note", 0, one) for one in beats)

        score = song(line(1, (2, 1), (1, 1)), line(2, (1, 1), (1, 1), (1, 1)), line(3, (3, 1)))
        self.same([(note[0], note[3]) for note in notes_of(score)], [(0, 1), (0, 2), (0, 3), (1, 2), (2, 1), (2, 2)])
        # Two notes of one voice may have one onset only if the first one is left out.
        score = song(line(5, (1, 2), (1, 2), (1, 1)), line(6, (1, 4), (3, 4)))
        self.same([(note[0], note[1], note[3]) for note in notes_of(score)], [(0, 1, 5), (0, 1, 6), (1, 1, 5)])

    def test_many_ahead_of_keys(self):
        away = ("note", 60, (1, 1))
        score = song((away,), (("times", 2000, (NOTE,)),))
        self.raises(TooMany, (2001,), notes_of, score)
        self.assertIs(has_notes(score), False)
        score = song((("times", 1000, (NOTE,)),), (("times", 1000, (NOTE,)),))
        self.assertEqual(len(notes_of(score)), 2000)
        self.assertIs(has_notes(score), True)
        score = song((("times", MANY, (("times", MANY, (NOTE,)),)),), (NOTE,))
        self.raises(TooMany, (MANY * MANY + 1,), notes_of, score)
        self.assertIs(has_notes(score), False)

    def test_the_first_key_away(self):
        def at(key, beats=(1, 1)):
            return ("note", key, beats)

        # The second voice's key comes earlier in beats, but the first voice is looked at first.
        score = song((NOTE, NOTE, at(40), at(50)), (at(60),))
        self.raises(KeyAway, (40,), notes_of, score)
        score = song((NOTE,), (NOTE, ("times", 2, (("call", "a", 10),))), phrases=[("a", (NOTE, at(-60), at(60)))])
        self.raises(KeyAway, (-50,), notes_of, score)
        self.raises(KeyAway, (120,), notes_of, song((("call", "a", 60),), phrases=[("a", (at(60),))]))
        slow = (((0, 1), (1, 64)),)
        self.raises(KeyAway, (55,), notes_of, song((at(55),), tempo=slow))
        for score in (song((at(55),), tempo=slow), song((NOTE,), (at(60),))):
            self.assertIs(has_notes(score), False)

    def test_lengths_that_touch(self):
        source = drawing(31)
        for _ in range(60):
            score = drawn_score(source)
            tempo = score[0]
            for voice in range(len(score[3])):
                events = walk_of(score, voice)
                for one in events:
                    end = plus(one[0], one[1])
                    for other in events:
                        if other[0] == end:
                            onset = sample_of(tempo, one[0])
                            length = sample_of(tempo, end) - onset
                            self.same(onset + length, sample_of(tempo, other[0]))

    def test_touching_notes_leave_no_gap(self):
        tempo = (((0, 1), (7, 3)), ((5, 2), (9, 4)), ((6, 1), (55, 7)))
        line = tuple(("note", 0, beats) for beats in ((2, 3), (5, 7), (3, 1), (1, 1), (9, 2), (13, 5), (1, 64)))
        notes = notes_of(song(line * 3, tempo=tempo))
        for note, later in zip(notes, notes[1:]):
            self.same(note[0] + note[1], later[0])
        last = notes[-1]
        self.same(sum(note[1] for note in notes), last[0] + last[1] - notes[0][0])

    def test_pitches(self):
        tuning = (440, ((9, 8), (5, 4), (2, 1)))
        score = song(tuple(("note", key, (1, 1)) for key in range(-24, 27)), tuning=tuning)
        self.same([note[2] for note in notes_of(score)], [pitch_of(tuning, key) for key in range(-24, 27)])
        self.assertEqual(Fraction(notes_of(score)[24][2]), 440)
