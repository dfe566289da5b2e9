"""The errors of the package: each keeps, in its attributes, what it was created with."""


class FaceError(ValueError):
    """Something that was passed is not as it must be."""


class InvalidRatio(FaceError):
    """No integers, a bottom of 0, or a text that is no Ratio."""


class NoQuotient(FaceError):
    """A division by 0."""


class InvalidAxis(FaceError):
    """An axis is not as told: its "name", its "order" or its "bend"."""

    def __init__(self, reason):
        self.reason = reason


class InvalidSetting(FaceError):
    """The place under this name is wrong, or the names or the whole (None)."""

    def __init__(self, name):
        self.name = name


class InvalidRoom(FaceError):
    """The span under this name is wrong, or the names or the whole (None)."""

    def __init__(self, name):
        self.name = name


class InvalidTent(FaceError):
    """No tent, or no reach."""


class InvalidRow(FaceError):
    """A row or a quantity is not as told."""

    def __init__(self, reason):
        self.reason = reason


class InvalidLetter(FaceError):
    """A letter is not as told."""

    def __init__(self, reason):
        self.reason = reason


class InvalidDesign(FaceError):
    """A design is not as told."""

    def __init__(self, reason):
        self.reason = reason


class Needed(FaceError):
    """A letter that would be left out is needed by one that stays."""

    def __init__(self, name):
        self.name = name


class InvalidJoin(FaceError):
    """Two designs that do not fit together, with the axis or the letter that shows it."""

    def __init__(self, name):
        self.name = name


class InvalidMasters(FaceError):
    """Masters that are not as told, with the index of the first wrong one."""

    def __init__(self, index):
        self.index = index


class NotOneRoom(FaceError):
    """Two designs whose rooms are not the same."""


class InvalidChange(FaceError):
    """Something among the changes is no change."""


class InvalidText(FaceError):
    """A text that cannot be read, with the first wrong line and word."""

    def __init__(self, line, word):
        self.line = line
        self.word = word


class UnknownCommand(FaceError):
    """A line that a desk cannot carry out, with its first word."""

    def __init__(self, word):
        self.word = word


class NothingToUndo(FaceError):
    """There is no change that could be taken back."""


class MissingError(LookupError):
    """Something is asked for under a name that is not there."""


class UnknownAxis(MissingError):
    """There is no axis of this name."""

    def __init__(self, name):
        self.name = name


class UnknownLetter(MissingError):
    """There is no letter, or no thing, of this name."""

    def __init__(self, name):
        self.name = name
