"""The errors of the package [5].

Each class that has a field derives straight from CoreError and makes the
field itself, so that none of them is caught in the place of another one.
"""


class CoreError(ValueError):
    """Any error that this package raises."""

    def __init__(self):
        ValueError.__init__(self)


class InvalidKind(CoreError):
    """An argument has to be a kind, perhaps one of a Kinds or of a rule, and is not."""

    def __init__(self, value=None):
        CoreError.__init__(self)
        self.value = value


class InvalidTable(CoreError):
    """An argument has to be the table of a Kinds or of a store, and is not."""

    def __init__(self, value=None):
        CoreError.__init__(self)
        self.value = value


class InvalidKinds(CoreError):
    """An argument has to be a Kinds, and is not."""

    def __init__(self, value=None):
        CoreError.__init__(self)
        self.value = value


class InvalidPairs(CoreError):
    """An argument has to be pairs of kinds of a rule, or one of them, and is not."""

    def __init__(self, value=None):
        CoreError.__init__(self)
        self.value = value


class InvalidWord(CoreError):
    """An argument has to be "cover" or "stop", and is not."""

    def __init__(self, value=None):
        CoreError.__init__(self)
        self.value = value


class InvalidRule(CoreError):
    """An argument has to be a rule, and is not."""

    def __init__(self, value=None):
        CoreError.__init__(self)
        self.value = value


class InvalidMap(CoreError):
    """An argument has to be a map, or new names, and is not."""

    def __init__(self, value=None):
        CoreError.__init__(self)
        self.value = value


class InvalidNames(CoreError):
    """An argument has to be names with their kinds, and is not."""

    def __init__(self, value=None):
        CoreError.__init__(self)
        self.value = value


class InvalidBook(CoreError):
    """An argument has to be a book, and is not."""

    def __init__(self, value=None):
        CoreError.__init__(self)
        self.value = value


class InvalidName(CoreError):
    """An argument has to be a name of a book, and is not."""

    def __init__(self, value=None):
        CoreError.__init__(self)
        self.value = value


class InvalidLog(CoreError):
    """An argument has to be a log of a book, or a row of kinds, and is not."""

    def __init__(self, value=None):
        CoreError.__init__(self)
        self.value = value


class InvalidLogs(CoreError):
    """An argument has to be segments, and is not."""

    def __init__(self, value=None):
        CoreError.__init__(self)
        self.value = value


class InvalidMerging(CoreError):
    """An argument has to be a merging of segments, and is not."""

    def __init__(self, value=None):
        CoreError.__init__(self)
        self.value = value


class InvalidStrike(CoreError):
    """An argument has to be a strike, or one that fits, and is not."""

    def __init__(self, value=None):
        CoreError.__init__(self)
        self.value = value


class InvalidRoad(CoreError):
    """An argument has to be strikes one behind the other, and is not."""

    def __init__(self, value=None):
        CoreError.__init__(self)
        self.value = value


class InvalidPlaces(CoreError):
    """An argument has to be places of entries, a block, or remembered rows, and is not."""

    def __init__(self, value=None):
        CoreError.__init__(self)
        self.value = value


class InvalidCount(CoreError):
    """An argument has to be a count, perhaps within bounds, and is not."""

    def __init__(self, value=None):
        CoreError.__init__(self)
        self.value = value


class InvalidFuture(CoreError):
    """An argument has to be a future, and is not."""

    def __init__(self, value=None):
        CoreError.__init__(self)
        self.value = value


class InvalidValue(CoreError):
    """An argument has to be a value of a store, and is not."""

    def __init__(self, value=None):
        CoreError.__init__(self)
        self.value = value


class InvalidStore(CoreError):
    """An argument has to be a store, its holding, or a store that fits, and is not."""

    def __init__(self, value=None):
        CoreError.__init__(self)
        self.value = value


class InvalidInputs(CoreError):
    """An argument has to be inputs, and is not."""

    def __init__(self, value=None):
        CoreError.__init__(self)
        self.value = value


class InvalidFolding(CoreError):
    """An argument has to be a folding, and is not."""

    def __init__(self, value=None):
        CoreError.__init__(self)
        self.value = value


class InvalidJournal(CoreError):
    """An argument has to be a journal, and is not."""

    def __init__(self, value=None):
        CoreError.__init__(self)
        self.value = value


class InvalidSpot(CoreError):
    """An argument has to be a spot of a journal, and is not."""

    def __init__(self, value=None):
        CoreError.__init__(self)
        self.value = value


class InvalidScript(CoreError):
    """An argument has to be a script, and is not."""

    def __init__(self, value=None):
        CoreError.__init__(self)
        self.value = value


class InvalidText(CoreError):
    """An argument has to be a text that a writer makes, and is not."""

    def __init__(self, value=None):
        CoreError.__init__(self)
        self.value = value


class InvalidRecord(CoreError):
    """An argument has to be a record of a journal, and is not."""

    def __init__(self, value=None):
        CoreError.__init__(self)
        self.value = value


class Unlike(CoreError):
    """An argument has to be of the same rule or kinds as an elder one, and is not."""

    def __init__(self, value=None):
        CoreError.__init__(self)
        self.value = value


class Apart(CoreError):
    """An argument has to be alike with an elder log, and is not."""

    def __init__(self, value=None):
        CoreError.__init__(self)
        self.value = value


class Unsettled(CoreError):
    """An argument has to be a settled rule, or a book of one, and is not."""

    def __init__(self, value=None):
        CoreError.__init__(self)
        self.value = value


class Boundless(CoreError):
    """An argument has to be of a settled rule whose cores are bounded, and is not."""

    def __init__(self, value=None):
        CoreError.__init__(self)
        self.value = value


class Refused(CoreError):
    """An argument asks for something that cannot be done as things stand."""

    def __init__(self, value=None):
        CoreError.__init__(self)
        self.value = value


class NothingToUndo(CoreError):
    """No command is there to be taken back."""


class NothingToRedo(CoreError):
    """No command that was taken back is there to be made again."""
