"""The refusals of the program, each of them a TrailError."""


class TrailError(ValueError):
    """Any refusal."""


class NoName(TrailError):
    """A thing that should be a name is none."""


class NotThere(TrailError):
    """A name is not kept, or no name is kept under a beginning."""


class Taken(TrailError):
    """A name would be kept twice."""


class TooLong(TrailError):
    """A new name would have too many signs."""


class TooMany(TrailError):
    """Too many names would be kept."""


class NoNote(TrailError):
    """A text is not of the form of a note."""


class NothingDone(TrailError):
    """There is no deed to take back."""
