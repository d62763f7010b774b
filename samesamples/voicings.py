"""The step of the boxes of the kind voices: notes that sound, as many at once as there is room for."""

from samesamples.kinds import ONE
from samesamples.makers import table_at
from samesamples.wholes import clip


def voices_step(knobs, voices, worths):
    """The voices behind a step at the position that the inlet tells, and the worth."""
    sounding = list(voices)
    for note in notes_at(knobs[0], worths[0]):
        _put_note(knobs, sounding, note)
    told = clip(sum([_sound_of(knobs, voice) for voice in sounding]))
    span = len(knobs[3]) * ONE
    return tuple([_moved(span, voice) for voice in sounding if voice[3] > 1]), told


def notes_at(notes, pos):
    """The notes whose onset is pos, in sequence."""
    low, high = 0, len(notes)
    # Onsets never fall: the first one that is not below pos is found by halves.
    while low < high:
        middle = (low + high) // 2
        if notes[middle][0] < pos:
            low = middle + 1
        else:
            high = middle
    while high < len(notes) and notes[high][0] == pos:
        high += 1
    return notes[low:high]


def _put_note(knobs, sounding, note):
    """Put the note's voice last, if the rule makes room for it or there is some."""
    if len(sounding) >= knobs[1]:
        if knobs[2] == "never":
            return
        sounding.pop(_place_to_go(knobs, sounding, note[2]))
    sounding.append((note[2], 0, 0, note[1], note[3]))


def _place_to_go(knobs, sounding, pitch):
    """The place of the voice that goes when a note of this pitch comes."""
    if knobs[2] == "softest":
        strengths = [_strength(knobs, voice) for voice in sounding]
        return strengths.index(min(strengths))
    if knobs[2] == "same":
        for at, voice in enumerate(sounding):
            if voice[0] == pitch:
                return at
    return 0


def _strength(knobs, voice):
    _, _, age, left, loud = voice
    attack, release = knobs[4:]
    return (ONE * min(age + 1, attack) // attack) * min(left, release) // release * loud // ONE


def _sound_of(knobs, voice):
    return table_at(knobs[3], voice[1], ONE) * _strength(knobs, voice) // ONE


def _moved(span, voice):
    """The voice one step on."""
    pitch, phase, age, left, loud = voice
    return pitch, (phase + pitch) % span, age + 1, left - 1, loud
