"""A plain engine for the tests: it reckons each answer place by place from the document's words."""

from samesamples.datatexts import text_of
from samesamples.errors import SoundError
from helpers import ANYTHING
from histories import LAST, Plain, plain_done, plain_seeds, plain_standing

# Tests that use the plain engine keep their seams, fronts and delays so small that behind it nothing is new.
HORIZON = 24


class Refused(Exception):
    """What the plain engine refuses: the name of the error, and its fields."""

    def __init__(self, *told):
        self.told = told


def answer(function, *args):
    """What the call returns, or the name of the error of the package that it raises, and the fields."""
    try:
        return "returns", function(*args)
    except SoundError as error:
        return ("raises", type(error).__name__) + tuple(vars(error).values())
    except Refused as error:
        return ("raises",) + error.told


def work(engine, name, many, hand=0):
    """Do a job of many samples of the name."""
    engine.begin(hand, name, many)
    return engine.end(hand)


def not_numbers(*allowed):
    """Of ANYTHING what is not one of these integers."""
    return [thing for thing in ANYTHING if isinstance(thing, bool) or not isinstance(thing, int) or thing not in allowed]


def plain_touched(history, other):
    """The places that are touched, found sample by sample."""
    seeds = set(plain_seeds(history, other))
    touched = set()
    for sample in range(history.goal):
        fresh = True
        while fresh:
            fresh = {
                (name, sample) for name in set(history.names) | set(other.names)
                if (name, sample) not in touched
                and ((name, sample) in seeds or any(place in touched for place in history.neighbours((name, sample))))
            }
            touched |= fresh
    return touched


class PlainEngine:
    def __init__(self, project, ears, entries=()):
        self.project, self.ears, self.entries = project, ears, entries
        self.undone, self.heard, self.sealed = (), 0, False
        self.given, self.shut = [(), (), (), ()], [False] * 4
        self.worked, self.slips = {}, {}
        self.known = {}

    def history(self, entries=None):
        entries = self.entries if entries is None else entries
        if entries not in self.known:
            self.known[entries] = Plain(self.project, entries, HORIZON)
        return self.known[entries]

    def front(self, name):
        return self.worked.get(name, 0)

    def open_slips(self):
        return {slip[0]: slip for slip in self.slips.values() if not slip[3]}

    def names(self):
        names = set(self.history().names) | set(self.ears) | set(self.open_slips())
        return tuple(sorted(names | {name for name in self.worked if self.worked[name]}))

    def amounts(self):
        return tuple(None if shut else len(sound) for sound, shut in zip(self.given, self.shut))

    def fronts(self):
        return tuple((name, front) for name, front in sorted(self.worked.items()) if front)

    def busy(self):
        return tuple((hand,) + tuple(slip) for hand, slip in sorted(self.slips.items()))

    def give(self, channel, worths):
        if self.shut[channel]:
            raise Refused("Shut", channel)
        if len(self.given[channel]) + len(worths) > LAST:
            raise Refused("TooFar", LAST)
        self.given[channel] += worths

    def close(self, channel):
        if self.shut[channel]:
            raise Refused("Shut", channel)
        self.shut[channel] = True

    def ready(self, name, many):
        if name not in self.names():
            raise Refused("NoName", name)
        front = self.front(name)
        if front + many > LAST:
            raise Refused("TooFar", front + many)
        history = self.history()
        for sample in range(front, front + many):
            box = history.box(name, sample)
            if box is None:
                continue
            if box[0] == "feed":
                has = self.amounts()[box[2][0]]
                if has is not None and has <= sample:
                    return sample, -1
            for inlet, place in enumerate(history.reads(name, sample)):
                if place is not None and place[1] >= self.front(place[0]):
                    return sample, inlet
        return None

    def begin(self, hand, name, many):
        if hand in self.slips:
            raise Refused("HandBusy", hand)
        if name not in self.names():
            raise Refused("NoName", name)
        if name in self.open_slips():
            raise Refused("NameTaken", name)
        lack = self.ready(name, many)
        if lack is not None:
            raise Refused("NotReady", *lack)
        self.slips[hand] = [name, self.front(name), many, False]
        return self.front(name)

    def end(self, hand):
        name, low, many, struck = self.taken(hand)
        if not struck:
            self.worked[name] = low + many
        return not struck

    def drop(self, hand):
        self.taken(hand)

    def taken(self, hand):
        if hand not in self.slips:
            raise Refused("NoSlip", hand)
        return self.slips.pop(hand)

    def run(self):
        key = self.entries, tuple(self.given)
        if key not in self.known:
            self.known[key] = self.history().run(self.given)
        return self.known[key]

    def hear(self, many):
        for ear in self.ears:
            if self.front(ear) < self.heard + many:
                raise Refused("NotYet", ear)
        told = self.run()
        self.heard += many
        samples = range(self.heard - many, self.heard)
        return tuple(tuple(told.get((ear, sample), (None, 0))[1] for ear in self.ears) for sample in samples)

    def change(self, sample, deed):
        if self.sealed:
            raise Refused("Sealed")
        return self.enter(sample, deed, ())

    def redo(self, sample):
        if self.sealed:
            raise Refused("Sealed")
        if not self.undone:
            raise Refused("NothingToRedo")
        return self.enter(sample, self.undone[-1], self.undone[:-1])

    def enter(self, sample, deed, undone):
        if len(self.entries) == 64:
            raise Refused("TooMany", 64)
        _, refusal = plain_done(plain_standing(self.project, self.entries, sample)[0], deed, len(self.entries))
        if refusal is not None:
            raise Refused("NotLet", *refusal)
        return self.turn_to(self.entries + ((sample, None, deed),), undone)

    def undo(self, sample):
        if self.sealed:
            raise Refused("Sealed")
        numbers = [number for number, entry in enumerate(self.entries) if entry[1] is None]
        if not numbers:
            raise Refused("NothingToUndo")
        begin, _, deed = self.entries[max(numbers)]
        entries = list(self.entries)
        entries[max(numbers)] = (begin, max(begin, sample), deed)
        return self.turn_to(tuple(entries), self.undone + (deed,))

    def turn_to(self, entries, undone):
        touched = plain_touched(self.history(), self.history(entries))
        for sample in range(self.heard):
            for ear in self.ears:
                if (ear, sample) in touched:
                    raise Refused("Heard", ear, sample)
        self.entries, self.undone = entries, undone
        for slip in self.slips.values():
            if any((slip[0], sample) in touched for sample in range(slip[1] + slip[2])):
                slip[3] = True
        fell = {}
        for name, front in self.fronts():
            below = [sample for sample in range(front) if (name, sample) in touched]
            if below:
                fell[name] = self.worked[name] = min(below)
        return tuple(sorted(fell.items()))

    def seal(self):
        if self.sealed:
            raise Refused("Sealed")
        self.sealed = True

    def wanted(self, name):
        if not self.sealed:
            return 0
        history = self.history()
        wanted = [self.front(name)] + ([self.heard] if name in self.ears else [])
        for reader in history.names:
            for sample in range(self.front(reader), HORIZON):
                if history.box(reader, sample) is not None:
                    wanted += [place[1] for place in history.reads(reader, sample) if place is not None and place[0] == name]
        return min(wanted)

    def room(self, name):
        return self.front(name) - self.wanted(name)

    def worths(self, name, low, high):
        if high > self.front(name):
            raise Refused("NotYet", name)
        if low < self.wanted(name):
            raise Refused("Gone", name)
        told = self.run()
        return tuple(told.get((name, sample), (None, 0))[1] for sample in range(low, high))

    def save(self):
        return text_of((self.project, self.entries, self.undone, self.ears, tuple(self.given), tuple(self.shut), self.heard,
                        self.sealed, self.fronts(), self.busy()))

    # Stages 22 to 24.

    def steps_left(self, goal, sizes, hands):
        steps = [("end", hand) for hand in sorted(self.slips)]
        free = [hand for hand in range(hands) if hand not in self.slips]
        for name in self.names() if free else ():
            if name not in self.open_slips():
                for size in sizes:
                    if self.front(name) + size <= goal and self.ready(name, size) is None:
                        steps.append(("begin", free[0], name, size))
        return tuple(steps)

    def do_step(self, step):
        if step[0] == "end":
            self.end(step[1])
        else:
            self.begin(*step[1:])

    def do_worked(self, goal, picks, sizes, hands):
        count = jobs = 0
        while self.steps_left(goal, sizes, hands):
            steps = self.steps_left(goal, sizes, hands)
            step = steps[picks[count % len(picks)] % len(steps)]
            self.do_step(step)
            jobs += step[0] == "begin"
            count += 1
        return jobs

    def needed(self, name, until):
        """The needed places of the name to come to until."""
        history = self.history()
        found, fresh = set(), [(name, sample) for sample in range(self.front(name), until)]
        while fresh:
            place = fresh.pop()
            if place in found:
                continue
            found.add(place)
            fresh += [(place[0], sample) for sample in range(self.front(place[0]), place[1])]
            if history.box(*place) is not None:
                fresh += [one for one in history.reads(*place) if one is not None and one[1] >= self.front(one[0])]
        return found

    def needed_now(self, name, until):
        if name not in self.names():
            raise Refused("NoName", name)
        return needs_in(self.needed(name, until))

    def refuse_busy(self):
        if self.slips:
            raise Refused("HandBusy", min(self.slips))

    def refuse_lacking(self, places):
        """Refuse what the feeds among the places ask for and the channels lack."""
        asked = [0] * 4
        for place in places:
            box = self.history().box(*place)
            if box is not None and box[0] == "feed":
                asked[box[2][0]] = max(asked[box[2][0]], place[1] + 1)
        for channel, has in enumerate(self.amounts()):
            if has is not None and has < asked[channel]:
                raise Refused("NotGiven", channel, asked[channel])

    def go_ahead(self, name, until):
        needs = self.needed_now(name, until)
        self.refuse_busy()
        self.refuse_lacking(self.needed(name, until))
        self.worked.update(needs)
        return needs

    def pull(self, many):
        self.refuse_busy()
        if self.heard + many > LAST:
            raise Refused("TooFar", self.heard + many)
        places = set().union(*[self.needed(ear, self.heard + many) for ear in self.ears])
        self.refuse_lacking(places)
        self.worked.update(needs_in(places))
        return self.hear(many)

    def buffer_at(self, sample):
        """The least delay up to which wires of what stands at the sample lead round; None if none do."""
        boxes = self.history().standings[min(sample, LAST - 1)][0]
        wires = [(wire[0], name, wire[1]) for name in boxes for wire in boxes[name][3] if wire is not None]
        for most in sorted({delay for _, _, delay in wires}):
            short = {(source, name) for source, name, delay in wires if delay <= most}
            for _ in boxes:
                short |= {(one, other) for one, name in short for source, other in short if source == name}
            if any(source == name for source, name in short):
                return most
        return None

    def go_rounds(self, cuts):
        front = max(self.worked.values(), default=0)
        self.refuse_busy()
        names = self.names()
        for name in names:
            if self.front(name) != self.front(names[0]):
                raise Refused("Uneven", name)
        rounds = list(zip((front,) + cuts, cuts))
        seams = sorted({bound for begin, until, _ in self.entries for bound in (begin, until) if bound})
        across = [seam for low, high in rounds for seam in seams if low < seam < high]
        if across:
            raise Refused("AcrossSeam", min(across))
        for low, high in rounds:
            greatest = self.buffer_at(low)
            if greatest is not None and high - low > greatest:
                raise Refused("LongBuffer", greatest)
        self.refuse_lacking([(name, sample) for name in names for sample in range(front, cuts[-1])])
        self.worked.update({name: cuts[-1] for name in names})
        return len(cuts) * len(names)

    def reach_now(self, still, goal):
        history = self.history()
        fronts = dict(self.worked)
        fronts.update({name: slip[1] + slip[2] for name, slip in self.open_slips().items()})
        return plain_reach(history, self.names(), fronts, still, self.amounts(), goal)


def needs_in(places):
    needs = {}
    for name, sample in places:
        needs[name] = max(needs.get(name, 0), sample + 1)
    return tuple(sorted(needs.items()))


def plain_reach(history, names, fronts, still, amounts, goal):
    """The reach of each of the names, by blocked places that spread until no more do."""
    blocked = set()
    everyone = sorted(set(names) | set(history.names))

    def is_blocked(name, sample):
        if sample < fronts.get(name, 0):
            return False
        if name in still or (name, sample - 1) in blocked:
            return True
        box = history.box(name, sample)
        if box is None:
            return False
        if box[0] == "feed" and amounts[box[2][0]] is not None and amounts[box[2][0]] <= sample:
            return True
        return any(place in blocked for place in history.reads(name, sample))

    fresh = True
    while fresh:
        places = [(name, sample) for name in everyone for sample in range(goal)]
        fresh = {place for place in places if place not in blocked and is_blocked(*place)}
        blocked |= fresh
    told = []
    for name in names:
        samples = [sample for sample in range(goal) if (name, sample) in blocked]
        told.append((name, min(samples, default=max(goal, fronts.get(name, 0)))))
    return tuple(told)
