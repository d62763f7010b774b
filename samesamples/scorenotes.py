"""The notes of a score, in samples and pitches."""

from samesamples.errors import KeyAway, TooMany
from samesamples.passages import voice_passage
from samesamples.quotients import floor_of, plus
from samesamples.tempos import begins_of, time_by
from samesamples.tunings import pitch_of
from samesamples.walking import MOST
from samesamples.walks import events_between


def notes_of(score):
    """The notes of all voices, in sequence of onset, voice and walk."""
    passages = [voice_passage(score, voice) for voice in range(len(score[3]))]
    count = sum([passage.count for passage in passages])
    if count > MOST:
        raise TooMany(count)
    begins = begins_of(score[0])
    notes = []
    for passage in passages:
        for event in events_between(passage, 0, passage.count):
            note = _note_of(score, begins, event)
            if note[1] > 0:
                notes.append(note)
    # Sorting keeps the sequence of voices and walks where onsets are equal.
    return tuple(sorted(notes, key=lambda one: one[0]))


def has_notes(score):
    """Whether notes_of can tell the score's notes."""
    try:
        notes_of(score)
    except (TooMany, KeyAway):
        return False
    return True


def _note_of(score, begins, event):
    beat, beats, key, loud = event
    onset = floor_of(time_by(score[0], begins, beat))
    end = floor_of(time_by(score[0], begins, plus(beat, beats)))
    return onset, end - onset, pitch_of(score[1], key), loud
