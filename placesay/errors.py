"""The refusals of the package."""


class SayError(ValueError):
    """Any refusal."""


class NoName(SayError):
    """A name that nobody around it tells, or whose nearest teller is of the other sort."""


class NoLetter(SayError):
    """A sign that is none of the letters."""


class OtherMarks(SayError):
    """Two machines whose marks are not the same, in the same order."""
