"""The refusals: one class for each kind, all of them RoadErrors."""


class RoadError(ValueError):
    """Any refusal."""


class NoPath(RoadError):
    """A text that is no path stands where a path must stand."""


class NoFile(RoadError):
    """A file is to be cut that is not there."""


class InTheWay(RoadError):
    """A file would lie beneath another one."""


class NoClash(RoadError):
    """A pick is for a path that is in no clash."""


class Clashed(RoadError):
    """Trees cannot be joined, for a clash is left."""


class NoVersion(RoadError):
    """A number is none of a book's versions."""


class SameVersion(RoadError):
    """A version is to be joined with itself."""
