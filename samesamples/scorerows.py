"""The rows of a score's text, taken one after another as far as a score can have them."""

from samesamples.errors import BadText
from samesamples.itemreadings import items_written
from samesamples.kinds import is_name
from samesamples.scorekinds import are_phrases, are_voices
from samesamples.tempos import is_tempo
from samesamples.tunings import is_tuning
from samesamples.writtens import integer_written, quotient_written


def take_all(taken, text):
    """Let taken take all rows of the text; tells how many there are."""
    rows = text.split("\n")
    for at, row in enumerate(rows[:-1]):
        if not taken.take(row):
            raise BadText(at)
    # Behind the last newline stands nothing, or one row that no text can have.
    if rows[-1] != "" or not taken.ended:
        raise BadText(len(rows) - 1)
    return len(rows) - 1


class ScoreRows:
    """What the rows so far tell of a score."""

    def __init__(self):
        self.name = None
        self.tempo = ()
        self.tuning = None
        self.phrases = ()
        self.voices = ()
        self.ended = False

    def take(self, row):
        """Take the row, if it can stand next in a score's text; tells whether it can."""
        words = row.split(" ")
        if self.ended:
            return False
        if self.name is None:
            return self.take_name(words)
        if self.tuning is None:
            return self.take_tempo(words) or self.take_tuning(words)
        return self.take_phrase(words) or self.take_voice(words) or self.take_end(words)

    def take_name(self, words):
        """A row score NAME."""
        if len(words) != 2 or words[0] != "score" or not is_name(words[1]):
            return False
        self.name = words[1]
        return True

    def take_tempo(self, words):
        """A row tempo BEAT PACE."""
        if len(words) != 3 or words[0] != "tempo":
            return False
        tempo = self.tempo + ((quotient_written(words[1]), quotient_written(words[2])),)
        if not is_tempo(tempo):
            return False
        self.tempo = tempo
        return True

    def take_tuning(self, words):
        """A row tuning BASE RATIO RATIO .., behind a row of the tempo."""
        if len(words) < 2 or words[0] != "tuning" or self.tempo == ():
            return False
        tuning = (integer_written(words[1]), tuple([quotient_written(word) for word in words[2:]]))
        if not is_tuning(tuning):
            return False
        self.tuning = tuning
        return True

    def take_phrase(self, words):
        """A row phrase NAME : ITEM ITEM .., ahead of the voices."""
        if words[0] != "phrase" or not _is_part(words) or self.voices != ():
            return False
        phrases = self.phrases + ((words[1], items_written(words[3:])),)
        if not are_phrases(phrases):
            return False
        self.phrases = phrases
        return True

    def take_voice(self, words):
        """A row voice NAME : ITEM ITEM .. ."""
        if words[0] != "voice" or not _is_part(words):
            return False
        voices = self.voices + ((words[1], items_written(words[3:])),)
        if not are_voices(self.phrases, voices):
            return False
        self.voices = voices
        return True

    def take_end(self, words):
        """The row end, behind a voice."""
        self.ended = words == ["end"] and self.voices != ()
        return self.ended

    def told(self):
        """The pair of the name and the score, once the rows have ended."""
        return self.name, (self.tempo, self.tuning, self.phrases, self.voices)


def _is_part(words):
    return len(words) >= 3 and words[2] == ":"
