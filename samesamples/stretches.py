"""Stretches: by name ascending pairs (low, high) of samples, from low on and below high."""


class Stretches:
    """By name its stretches; those that touch are one."""

    def __init__(self):
        self.rows = {}

    def put(self, name, low, high):
        """Put a stretch behind the others of the name."""
        rows = self.rows.setdefault(name, [])
        if rows and rows[-1][1] == low:
            rows[-1] = (rows[-1][0], high)
        else:
            rows.append((low, high))

    def first(self, name, low):
        """The first sample from low on within the name's stretches; None if there is none."""
        for begin, end in self.rows.get(name, []):
            if end > low:
                return max(begin, low)
        return None

    def first_read(self, wire, low):
        """The first sample from low on at which the wire reads a place within the stretches of its source; or None."""
        if wire is None:
            return None
        first = self.first(wire[0], max(low - wire[1], 0))
        return None if first is None else first + wire[1]

    def pairs(self):
        """The ascending pairs (name, stretches)."""
        return tuple([(name, tuple(self.rows[name])) for name in sorted(self.rows)])
