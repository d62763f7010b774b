"""The rows of a project's text, taken one after another as far as a project can have them."""

from samesamples.boxkinds import inlets_by
from samesamples.datareadings import value_of
from samesamples.errors import BadText
from samesamples.kinds import is_name
from samesamples.knobkinds import is_knobs
from samesamples.projectkinds import MOST_BOXES, MOST_SCORES, is_delay
from samesamples.scorerows import ScoreRows
from samesamples.writtens import integer_written


class ProjectRows:
    """What the rows so far tell of a project."""

    def __init__(self):
        self.name = None
        self.boxes = []
        self.wires = []
        self.scores = []
        self.score = None
        self.ended = False

    def take(self, row):
        """Take the row, if it can stand next in a project's text; tells whether it can."""
        words = row.split(" ")
        if self.ended:
            return False
        if self.name is None:
            return self.take_name(words)
        if self.score is not None:
            return self.take_score(row)
        if words[0] == "box":
            return self.take_box(words)
        if words[0] == "wire":
            return self.take_wire(words)
        if words[0] == "score":
            return self.begin_score(row, words)
        self.ended = words == ["end"]
        return self.ended

    def take_name(self, words):
        """A row project NAME."""
        if len(words) != 2 or words[0] != "project" or not is_name(words[1]):
            return False
        self.name = words[1]
        return True

    def take_box(self, words):
        """A row box NAME KIND MARK DATA, ahead of the wires and the scores."""
        if len(words) != 5 or self.wires or self.scores or len(self.boxes) == MOST_BOXES:
            return False
        name, kind, mark, knobs = words[1], words[2], _number_written(words[3]), _value_written(words[4])
        if not is_name(name) or (self.boxes and name <= self.boxes[-1][0]):
            return False
        if mark is None or not is_knobs(kind, knobs):
            return False
        self.boxes.append((name, kind, mark, knobs))
        return True

    def take_wire(self, words):
        """A row wire NAME INLET SOURCE DELAY, ahead of the scores."""
        if len(words) != 5 or self.scores:
            return False
        name, inlet, source, delay = words[1], _number_written(words[2]), words[3], _number_written(words[4])
        if not self.has_inlet(name, inlet) or not is_name(source) or not is_delay(delay):
            return False
        if self.wires and (name, inlet) <= self.wires[-1][:2]:
            return False
        self.wires.append((name, inlet, source, delay))
        return True

    def has_inlet(self, name, inlet):
        """Whether a box of this name was told that has this inlet."""
        for one, kind, _, knobs in self.boxes:
            if one == name:
                return inlet is not None and inlet < inlets_by(kind, knobs)
        return False

    def begin_score(self, row, words):
        """The first row of a score, score NAME."""
        rows = ScoreRows()
        if len(self.scores) == MOST_SCORES or not rows.take(row):
            return False
        if self.scores and words[1] <= self.scores[-1][0]:
            return False
        self.score = rows
        return True

    def take_score(self, row):
        """A further row of the score that was begun last."""
        if not self.score.take(row):
            return False
        if self.score.ended:
            self.scores.append(self.score.told())
            self.score = None
        return True

    def told(self):
        """The pair of the name and the project, let or not, once the rows have ended."""
        wires = {(name, inlet): (source, delay) for name, inlet, source, delay in self.wires}
        boxes = []
        for name, kind, mark, knobs in self.boxes:
            inlets = [wires.get((name, inlet)) for inlet in range(inlets_by(kind, knobs))]
            boxes.append((name, (kind, mark, knobs, tuple(inlets))))
        return self.name, (tuple(boxes), tuple(self.scores))


def _number_written(word):
    """The number of at most sixty figures that is so written, or None."""
    number = integer_written(word)
    return None if number is None or number < 0 else number


def _value_written(word):
    """The value whose text the word is; None, too, if it is none's."""
    try:
        return value_of(word)
    except BadText:
        return None
