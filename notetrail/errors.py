"""The errors that the program raises."""


class TrailError(ValueError):
    """The base class of all errors of the program."""


class Refused(TrailError):
    """Something that the document refuses; what is its quoted text."""

    def __init__(self, what):
        self.what = what


class BadText(TrailError):
    """A fault in a text; line is counted from 1."""

    def __init__(self, line, what):
        self.line = line
        self.what = what
