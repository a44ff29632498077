"""The refusals: each stands straight under LayError, none under another."""


class LayError(ValueError):
    """What every refusal of the program is."""


class TooMany(LayError):
    """There are more than the most that was asked for."""


class NoAnswer(LayError):
    """A vector is no answer to the rows."""


class NoLay(LayError):
    """A vector can't be laid in the told ones."""


class NoLine(LayError):
    """A line is none of those that the desk answers."""


class NoText(LayError):
    """A text has a line, numbered from 1, that isn't one where it stands."""

    def __init__(self, line):
        LayError.__init__(self, f"line {line} isn't one where it stands")
        self.line = line
