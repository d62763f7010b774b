"""What is given on the channels, and which of them are shut."""

from samesamples.errors import Shut, TooFar
from samesamples.kinds import CHANNELS, LAST


class Channels:
    """For each channel the worths that were given, and whether it is shut."""

    def __init__(self):
        self.sounds = [[] for _ in range(CHANNELS)]
        self.closed = [False] * CHANNELS

    def give(self, channel, worths):
        """Put worths behind what the channel has."""
        if self.closed[channel]:
            raise Shut(channel)
        if len(self.sounds[channel]) + len(worths) > LAST:
            raise TooFar(LAST)
        self.sounds[channel].extend(worths)

    def close(self, channel):
        """Shut the channel."""
        if self.closed[channel]:
            raise Shut(channel)
        self.closed[channel] = True

    def told(self):
        """What the channels were given, a quadruple of sounds."""
        return tuple([tuple(sound) for sound in self.sounds])

    def amounts(self):
        """How many samples each channel has, None if it is shut."""
        return tuple([None if closed else len(sound) for sound, closed in zip(self.sounds, self.closed)])
