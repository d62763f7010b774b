"""Histories: entries, the project that stands at a sample, and the deeds that sleep there."""

from samesamples.deedkinds import is_deed
from samesamples.deeds import done_by
from samesamples.demands import demand
from samesamples.errors import NotLet
from samesamples.kinds import LAST, is_goal, is_sample, is_within
from samesamples.notebooks import NoteBook

MOST_ENTRIES = 64


def is_entries(thing):
    """Whether thing is a tuple of at most sixty-four entries."""
    return isinstance(thing, tuple) and len(thing) <= MOST_ENTRIES and all(_is_entry(one) for one in thing)


def standing(project, entries, sample):
    """The project that stands at the sample."""
    return _standings_at(project, entries, sample).project()


def sleeping(project, entries, sample):
    """The numbers of the entries that stand at the sample and are refused, ascending."""
    return _standings_at(project, entries, sample).sleepers()


def demand_histories(one, other, goal):
    """Refuse what are no entries of two histories, and what is no goal."""
    demand(is_entries(one), "one")
    demand(is_entries(other), "other")
    demand(is_goal(goal), "goal")


class Standings:
    """The standings of a history, each worked out from what it shares with the one ahead of it."""

    def __init__(self, project, entries, book):
        self.entries = entries
        self.book = book
        self.sequence = [number for _, number in sorted([(one[0], number) for number, one in enumerate(entries)])]
        self.numbers = []
        self.asleep = []
        self.projects = [project]

    def go_to(self, sample):
        """Take up the standing at the sample."""
        numbers = [number for number in self.sequence if _stands(self.entries[number], sample)]
        shared = _shared(numbers, self.numbers)
        self.numbers = numbers
        self.asleep = self.asleep[:shared]
        self.projects = self.projects[:shared + 1]
        for number in numbers[shared:]:
            self.do(number)

    def do(self, number):
        """Do the entry's deed, or pass it over if it is refused."""
        try:
            changed = done_by(self.projects[-1], self.entries[number][2], number, self.book)
        except NotLet:
            changed = None
        self.asleep.append(changed is None)
        self.projects.append(self.projects[-1] if changed is None else changed)

    def project(self):
        """The project that stands."""
        return self.projects[-1]

    def sleepers(self):
        """The numbers of the entries that were passed over, ascending."""
        return tuple(sorted([number for number, asleep in zip(self.numbers, self.asleep) if asleep]))


def _standings_at(project, entries, sample):
    demand(is_entries(entries), "entries")
    demand(is_sample(sample), "sample")
    standings = Standings(project, entries, NoteBook())
    standings.go_to(sample)
    return standings


def _shared(ones, others):
    """With how many items both begin alike."""
    for at, (one, other) in enumerate(zip(ones, others)):
        if one != other:
            return at
    return min(len(ones), len(others))


def _stands(entry, sample):
    begin, until, _ = entry
    return begin <= sample and (until is None or sample < until)


def _is_entry(thing):
    if not isinstance(thing, tuple) or len(thing) != 3:
        return False
    begin, until, deed = thing
    return is_sample(begin) and (until is None or is_within(until, begin, LAST)) and is_deed(deed)
