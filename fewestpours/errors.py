"""The errors of the package."""


class PourError(ValueError):
    """Whatever this package refuses."""


class InvalidStanding(PourError):
    """What was to become a standing is none; at tells which argument is wrong."""

    def __init__(self, at):
        PourError.__init__(self, "this is no standing")
        self.at = at


class InvalidText(PourError):
    """A text tells no errand; at tells which token is the first wrong one."""

    def __init__(self, at):
        PourError.__init__(self, "this text tells no errand")
        self.at = at


class InvalidRow(PourError):
    """A row or a program can't be done; at tells which entry is the first wrong one."""

    def __init__(self, at):
        PourError.__init__(self, "this can't be done")
        self.at = at


class InvalidPaper(PourError):
    """A paper shows nothing; at tells what is wrong with it."""

    def __init__(self, at):
        PourError.__init__(self, "this paper shows nothing")
        self.at = at


class InvalidQuestion(PourError):
    """What is asked for makes no sense; at tells where."""

    def __init__(self, at):
        PourError.__init__(self, "this can't be asked")
        self.at = at


class Refused(PourError):
    """What is asked for is refused; at tells why."""

    def __init__(self, at):
        PourError.__init__(self, "this is refused")
        self.at = at


class InvalidCommand(PourError):
    """A text is no command."""
