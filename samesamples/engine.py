"""The engine: it works a project out by jobs, while the project is changed and what is worked out is heard."""

from samesamples.channels import Channels
from samesamples.conestretches import cone_between
from samesamples.courses import Course
from samesamples.datatexts import text_of
from samesamples.deedkinds import is_deed
from samesamples.deeds import done_by
from samesamples.demands import demand
from samesamples.enginekinds import are_ears, is_channel, is_hand, is_size, is_stretch
from samesamples.errors import Gone, HandBusy, Heard, NameTaken, NoName, NoSlip, NothingToRedo, NothingToUndo
from samesamples.errors import NotReady, NotYet, Sealed, TooFar, TooMany
from samesamples.histories import MOST_ENTRIES, is_entries
from samesamples.jobs import Slip, first_unready, read_from, worked_out
from samesamples.kinds import LAST, is_name, is_number, is_sample, is_sound
from samesamples.notebooks import NoteBook
from samesamples.projectkinds import is_fresh, is_let
from samesamples.runs import Kinds
from samesamples.tracks import Tracks


class Engine:
    """A history at work: what is given, what is worked out of it by jobs, and what was heard."""

    def __init__(self, project, ears, entries=()):
        demand(is_let(project) and is_fresh(project), "project")
        demand(are_ears(ears), "ears")
        demand(is_entries(entries), "entries")
        self._project = project
        self._ears = ears
        self._entries = entries
        self._undone = ()
        self._heard = 0
        self._sealed = False
        self._channels = Channels()
        self._tracks = Tracks()
        self._slips = {}
        self._book = NoteBook()
        self._course = Course(project, entries, self._book)
        self._standing = self._course.names(LAST)

    def give(self, channel, worths):
        """Put worths behind what the channel has."""
        demand(is_channel(channel), "channel")
        demand(is_sound(worths), "worths")
        self._channels.give(channel, worths)

    def shut(self, channel):
        """Shut the channel: from now on it has every sample."""
        demand(is_channel(channel), "channel")
        self._channels.close(channel)

    def begin(self, hand, name, many):
        """Begin a job of many samples of the name; returns its first sample."""
        demand(is_hand(hand), "hand")
        demand(is_name(name), "name")
        demand(is_size(many), "many")
        if hand in self._slips:
            raise HandBusy(hand)
        self._demand_name(name)
        if name in self._open_slips():
            raise NameTaken(name)
        lack = self._lack(name, many)
        if lack is not None:
            raise NotReady(lack[0], lack[1])
        low = self.front(name)
        filling = Kinds(self._channels.sounds)
        worths, states = worked_out(self._course, self._tracks, filling, name, low, low + many)
        self._slips[hand] = Slip(name, low, many, worths, states)
        return low

    def end(self, hand):
        """End the hand's slip; returns whether it was not struck, and so is worked out."""
        slip = self._taken_slip(hand)
        if slip.struck:
            return False
        self._tracks.lay(slip.name, slip.worths, slip.states)
        self._forget()
        return True

    def drop(self, hand):
        """Take the hand's slip away, and nothing else."""
        self._taken_slip(hand)

    def ready(self, name, many):
        """None if a job of many samples of the name is ready; else the sample and the inlet that is not."""
        demand(is_name(name), "name")
        demand(is_size(many), "many")
        self._demand_name(name)
        return self._lack(name, many)

    def hear(self, many):
        """What the ears tell at the next many samples, a tuple for each of them."""
        demand(is_size(many), "many")
        high = self._heard + many
        for ear in self._ears:
            if self.front(ear) < high:
                raise NotYet(ear)
        sounds = [self._tracks.track(ear).cut(self._heard, high) for ear in self._ears]
        self._heard = high
        self._forget()
        return tuple([tuple([sound[at] for sound in sounds]) for at in range(many)])

    def change(self, sample, deed):
        """Do the deed from the sample on; returns the pairs (name, front) of the fronts that fell."""
        demand(is_sample(sample), "sample")
        demand(is_deed(deed), "deed")
        self._demand_open()
        return self._enter(sample, deed, ())

    def undo(self, sample):
        """Let the last entry without an until end at the sample; returns as change does."""
        demand(is_sample(sample), "sample")
        self._demand_open()
        standing = [number for number, entry in enumerate(self._entries) if entry[1] is None]
        if not standing:
            raise NothingToUndo()
        begin, _, deed = self._entries[standing[-1]]
        ended = ((begin, max(begin, sample), deed),)
        entries = self._entries[:standing[-1]] + ended + self._entries[standing[-1] + 1:]
        return self._turn_to(entries, self._undone + (deed,))

    def redo(self, sample):
        """Do the deed that was undone last from the sample on; returns as change does."""
        demand(is_sample(sample), "sample")
        self._demand_open()
        if not self._undone:
            raise NothingToRedo()
        return self._enter(sample, self._undone[-1], self._undone[:-1])

    def seal(self):
        """Refuse changes from now on, and keep no more than is still wanted."""
        self._demand_open()
        self._sealed = True
        self._forget()

    def wanted(self, name):
        """The sample from which on the name's worths are kept."""
        demand(is_name(name), "name")
        return self._wanted(name, read_from(self._course, self._tracks)) if self._sealed else 0

    def room(self, name):
        """How many worths of the name are kept."""
        return self.front(name) - self.wanted(name)

    def worths(self, name, low, high):
        """The sound of the name from low to below high."""
        demand(is_name(name), "name")
        demand(is_number(low), "low")
        demand(is_stretch(low, high), "high")
        if high > self.front(name):
            raise NotYet(name)
        if low < self.wanted(name):
            raise Gone(name)
        return self._tracks.track(name).cut(low, high)

    def project(self):
        """The project of the history."""
        return self._project

    def entries(self):
        """The entries of the history."""
        return self._entries

    def undone(self):
        """The deeds that were undone, the last one last."""
        return self._undone

    def ears(self):
        """The names that are heard."""
        return self._ears

    def given(self):
        """What the channels were given."""
        return self._channels.told()

    def amounts(self):
        """How many samples the channels have, None for a shut one."""
        return self._channels.amounts()

    def heard(self):
        """How many samples were heard."""
        return self._heard

    def sealed(self):
        """Whether the engine is sealed."""
        return self._sealed

    def names(self):
        """The names that stand at some sample, are heard, worked out or being worked out, ascending."""
        worked = [name for name, _ in self._tracks.fronts()]
        return tuple(sorted(set(self._standing + list(self._ears) + worked + self._open_slips())))

    def front(self, name):
        """How many samples of the name are worked out."""
        demand(is_name(name), "name")
        return self._tracks.front(name)

    def fronts(self):
        """The ascending pairs (name, front) of the fronts above 0."""
        return self._tracks.fronts()

    def busy(self):
        """The ascending quintuples (hand, name, low, many, struck) of the slips."""
        slips = [(hand, self._slips[hand]) for hand in sorted(self._slips)]
        return tuple([(hand, slip.name, slip.low, slip.many, slip.struck) for hand, slip in slips])

    def save(self):
        """The text from which the engine can be loaded."""
        shut = tuple(self._channels.closed)
        state = (self._undone, self._ears, self.given(), shut, self._heard, self._sealed, self.fronts(), self.busy())
        return text_of((self._project, self._entries) + state)

    def course(self):
        """The course of the history that stands."""
        return self._course

    def take_up(self, undone, channels, heard, sealed, tracks, slips):
        """Go on from what a save tells, worked out anew; for an engine to which nothing was done."""
        self._undone = undone
        self._channels = channels
        self._heard = heard
        self._sealed = sealed
        self._tracks = tracks
        self._slips = slips
        self._forget()

    def _open_slips(self):
        """The names that have a slip that is not struck."""
        return [self._slips[hand].name for hand in sorted(self._slips) if not self._slips[hand].struck]

    def _taken_slip(self, hand):
        """The hand's slip, which is taken from it."""
        demand(is_hand(hand), "hand")
        if hand not in self._slips:
            raise NoSlip(hand)
        return self._slips.pop(hand)

    def _demand_name(self, name):
        """Refuse what is none of names()."""
        if name not in self._standing and name not in self._ears:
            if self.front(name) == 0 and name not in self._open_slips():
                raise NoName(name)

    def _demand_open(self):
        """Refuse what a sealed engine refuses."""
        if self._sealed:
            raise Sealed()

    def _lack(self, name, many):
        """What ready tells of a name of the engine."""
        low = self.front(name)
        if low + many > LAST:
            raise TooFar(low + many)
        return first_unready(self._course, self._tracks, self.amounts(), name, low, low + many)

    def _enter(self, sample, deed, undone):
        """Enter the deed at the sample, if it can be done there; undone is what is left of the pile."""
        if len(self._entries) >= MOST_ENTRIES:
            raise TooMany(MOST_ENTRIES)
        done_by(self._course.segment_at(sample).project, deed, len(self._entries), self._book)
        return self._turn_to(self._entries + ((sample, None, deed),), undone)

    def _turn_to(self, entries, undone):
        """Let the history have these entries, if what was heard stays; returns the fronts that fell."""
        course = Course(self._project, entries, self._book)
        worked = [front for _, front in self.fronts()] + [low + many for _, _, low, many, _ in self.busy()]
        cone = cone_between(self._course, course, max(worked, default=0))
        touched = {name: stretches[0][0] for name, stretches in cone}
        self._refuse_heard(touched)
        self._entries = entries
        self._undone = undone
        self._course = course
        self._standing = course.names(LAST)
        for hand in sorted(self._slips):
            slip = self._slips[hand]
            slip.struck = slip.struck or touched.get(slip.name, LAST) < slip.high()
        fell = [(name, touched[name]) for name, front in self.fronts() if touched.get(name, front) < front]
        for name, front in fell:
            self._tracks.fall(name, front)
        return tuple(fell)

    def _refuse_heard(self, touched):
        """Refuse to change what was heard; touched tells by name the first sample that is touched."""
        least = min([touched[ear] for ear in self._ears if ear in touched], default=LAST)
        if least < self._heard:
            raise Heard([ear for ear in self._ears if touched.get(ear) == least][0], least)

    def _wanted(self, name, read):
        """The name's wanted sample; read tells by name the least sample that is still read."""
        heard = self._heard if name in self._ears else LAST
        return min(self.front(name), heard, read.get(name, LAST))

    def _forget(self):
        """Keep what is wanted alone, if the engine is sealed."""
        if self._sealed:
            read = read_from(self._course, self._tracks)
            self._tracks.forget({name: self._wanted(name, read) for name, _ in self.fronts()})
