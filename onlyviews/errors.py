"""The errors of the program, except those of faults.py."""


class ViewError(ValueError):
    """The base class of these errors."""


class InvalidText(ViewError):
    """A text has no text form: row is the first one that none has there."""

    def __init__(self, row):
        self.row = row


class NotAllowed(ViewError):
    """A base does not allow a batch: index is its first change that is not allowed."""

    def __init__(self, index):
        self.index = index


class NotFollowed(ViewError):
    """A batch cannot be followed: index is the first view for which it cannot."""

    def __init__(self, index):
        self.index = index


class InvalidRow(ViewError):
    """A console was given a row that has none of its forms."""

    def __init__(self, row):
        self.row = row


class UnknownName(ViewError):
    """A console keeps no view under a name."""

    def __init__(self, name):
        self.name = name
