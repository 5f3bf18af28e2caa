"""The refusals of Manyhands."""


class HandsError(ValueError):
    """Any refusal."""


class NoDeed(HandsError):
    """A thing or a line is no operation."""


class Unlike(HandsError):
    """An operation differs from another one of its name."""


class NoTime(HandsError):
    """The times of a hand's operations don't grow with their numbers."""


class NotThere(HandsError):
    """What is spoken of is not there."""


class Nothing(HandsError):
    """There is nothing to undo or to redo."""


class NoSave(HandsError):
    """Lines are no saved hand; `line` is the first wrong one, counted from 1."""

    def __init__(self, line):
        HandsError.__init__(self, f"line {line} is wrong")
        self.line = line
