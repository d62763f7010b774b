"""All errors of the package: one base, four families, and the errors themselves."""


class SoundError(ValueError):
    """The base of all errors of the package."""

    def fields(self):
        """The fields, in their order."""
        return ()

    def words(self):
        """The name of the error, and its fields."""
        return (self.__class__.__name__,) + self.fields()


class PaperError(SoundError):
    """A paper that its checker does not accept."""


class UseError(SoundError):
    """An argument that cannot be used."""


class DeedError(SoundError):
    """A deed that is refused."""


class EngineError(SoundError):
    """Something that an engine refuses."""


class InvalidPaper(PaperError):
    """The checker's entry word applies, at this place."""

    def __init__(self, word, at):
        self.word = word
        self.at = at

    def fields(self):
        """The fields, in their order."""
        return self.word, self.at


class NotUsable(UseError):
    """The parameter called word is not as stated."""

    def __init__(self, word, at):
        self.word = word
        self.at = at

    def fields(self):
        """The fields, in their order."""
        return self.word, self.at


class BadText(UseError):
    """A text that shows nothing, at this row."""

    def __init__(self, row):
        self.row = row

    def fields(self):
        """The fields, in their order."""
        return (self.row,)


class KeyAway(UseError):
    """A key that a tuning has no pitch for."""

    def __init__(self, key):
        self.key = key

    def fields(self):
        """The fields, in their order."""
        return (self.key,)


class TooMany(UseError):
    """So many of something that it is refused."""

    def __init__(self, many):
        self.many = many

    def fields(self):
        """The fields, in their order."""
        return (self.many,)


class NotLet(DeedError):
    """A deed refused for this reason, at this name."""

    def __init__(self, reason, name):
        self.reason = reason
        self.name = name

    def fields(self):
        """The fields, in their order."""
        return self.reason, self.name


class HandBusy(EngineError):
    """The hand has a slip."""

    def __init__(self, hand):
        self.hand = hand

    def fields(self):
        """The fields, in their order."""
        return (self.hand,)


class NoName(EngineError):
    """The engine has no such name."""

    def __init__(self, name):
        self.name = name

    def fields(self):
        """The fields, in their order."""
        return (self.name,)


class NameTaken(EngineError):
    """The name has a slip that is not struck."""

    def __init__(self, name):
        self.name = name

    def fields(self):
        """The fields, in their order."""
        return (self.name,)


class NotReady(EngineError):
    """A job that is not ready, at this sample and inlet."""

    def __init__(self, sample, inlet):
        self.sample = sample
        self.inlet = inlet

    def fields(self):
        """The fields, in their order."""
        return self.sample, self.inlet


class NoSlip(EngineError):
    """The hand has no slip."""

    def __init__(self, hand):
        self.hand = hand

    def fields(self):
        """The fields, in their order."""
        return (self.hand,)


class Sealed(EngineError):
    """The engine is sealed."""

    def __init__(self):
        pass


class TooFar(EngineError):
    """A sample behind the last one."""

    def __init__(self, sample):
        self.sample = sample

    def fields(self):
        """The fields, in their order."""
        return (self.sample,)


class Shut(EngineError):
    """The channel is shut."""

    def __init__(self, channel):
        self.channel = channel

    def fields(self):
        """The fields, in their order."""
        return (self.channel,)


class Heard(EngineError):
    """What was heard would change, at this name and sample."""

    def __init__(self, name, sample):
        self.name = name
        self.sample = sample

    def fields(self):
        """The fields, in their order."""
        return self.name, self.sample


class NothingToUndo(EngineError):
    """No change is left to undo."""

    def __init__(self):
        pass


class NothingToRedo(EngineError):
    """No change is left to redo."""

    def __init__(self):
        pass


class NotYet(EngineError):
    """The name is not worked out so far."""

    def __init__(self, name):
        self.name = name

    def fields(self):
        """The fields, in their order."""
        return (self.name,)


class Gone(EngineError):
    """The name's worths are not kept any more."""

    def __init__(self, name):
        self.name = name

    def fields(self):
        """The fields, in their order."""
        return (self.name,)


class NotGiven(EngineError):
    """The channel has not so many samples."""

    def __init__(self, channel, many):
        self.channel = channel
        self.many = many

    def fields(self):
        """The fields, in their order."""
        return self.channel, self.many


class Uneven(EngineError):
    """The fronts are not even, at this name."""

    def __init__(self, name):
        self.name = name

    def fields(self):
        """The fields, in their order."""
        return (self.name,)


class AcrossSeam(EngineError):
    """A job would go across this seam."""

    def __init__(self, seam):
        self.seam = seam

    def fields(self):
        """The fields, in their order."""
        return (self.seam,)


class LongBuffer(EngineError):
    """A buffer above the greatest one."""

    def __init__(self, greatest):
        self.greatest = greatest

    def fields(self):
        """The fields, in their order."""
        return (self.greatest,)
