"""The desk: an engine at which one stands with commands of one row each."""

from samesamples.datareadings import value_of
from samesamples.demands import demand
from samesamples.deskcalls import called
from samesamples.deskwords import command_of
from samesamples.engine import Engine
from samesamples.errors import SoundError
from samesamples.journals import is_row
from samesamples.loading import loaded


class Desk:
    """An engine, none at first, and the journal of all rows that were done."""

    def __init__(self):
        self._engine = None
        self._rows = []

    def do(self, row):
        """Write the row into the journal and do it; returns the answer."""
        demand(is_row(row), "row")
        self._rows.append(row)
        command = command_of(row)
        if command is None:
            return "no Unknown"
        word, read = command
        if self._engine is None and word not in ("new", "load"):
            return "no Engine"
        try:
            answer = self._answer(word, read)
        except SoundError as error:
            return _row_of(("no",) + error.words())
        return _row_of(answer)

    def journal(self):
        """All rows, each ended by a newline."""
        return "".join([row + "\n" for row in self._rows])

    def _answer(self, word, read):
        """The words of the answer to a command."""
        if word == "new":
            self._engine = Engine(value_of(read[1]), read[0])
            return ["ok"]
        if word == "load":
            self._engine = loaded(read[0])
            return ["ok"]
        return called(self._engine, word, read)


def _row_of(words):
    """The words with single blanks between them."""
    return " ".join([f"{word}" for word in words])
