"""Tracks: what is worked out of each name."""


class Track:
    """What is kept of one name: its front, worths that end there, and the states behind them.

    States are those of all samples, or, once worths were forgotten, the last one at least.
    """

    def __init__(self):
        self.front = 0
        self.worths = []
        self.states = []

    def lay(self, worths, states):
        """Put what a job has worked out behind the front."""
        self.front += len(worths)
        self.worths += worths
        self.states += states

    def fall(self, front):
        """Let the front fall; worths and states that were not forgotten lie ahead of it."""
        self.front = front
        del self.worths[front:]
        del self.states[front:]

    def forget(self, wanted):
        """Keep the worths from wanted on, and the last state, alone."""
        del self.worths[:max(len(self.worths) - (self.front - wanted), 0)]
        del self.states[:-1]

    def worth(self, sample):
        """The worth at the sample; 0 where none is kept."""
        at = sample - self.front
        return self.worths[at] if -len(self.worths) <= at < 0 else 0

    def last_state(self):
        """The state behind the last worked sample; None if there is none."""
        return self.states[-1] if self.states else None

    def cut(self, low, high):
        """The sound from low to below high, which is kept."""
        first = self.front - len(self.worths)
        return tuple(self.worths[low - first:high - first])


class Tracks:
    """By name a track, for the names whose front is above 0."""

    def __init__(self):
        self.rows = {}

    def track(self, name):
        """The name's track; a new one if there is none."""
        return self.rows[name] if name in self.rows else Track()

    def front(self, name):
        """How many of the name's samples are worked out."""
        return self.track(name).front

    def fronts(self):
        """The ascending pairs (name, front) of the fronts above 0."""
        return tuple([(name, self.rows[name].front) for name in sorted(self.rows)])

    def lay(self, name, worths, states):
        """Put what a job of the name has worked out behind its front."""
        self.rows.setdefault(name, Track()).lay(worths, states)

    def fall(self, name, front):
        """Let the name's front fall."""
        self.rows[name].fall(front)
        if front == 0:
            del self.rows[name]

    def forget(self, wanted):
        """Of each name keep the worths from its wanted sample on, and the last state, alone."""
        for name in sorted(self.rows):
            self.rows[name].forget(wanted[name])
