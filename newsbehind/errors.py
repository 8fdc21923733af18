"""The errors that this package raises."""


class NewsError(ValueError):
    """Every error of this package is one."""


class InvalidNet(NewsError):
    """A value from which no net can be made."""

    def __init__(self, at):
        self.at = at


class InvalidText(NewsError):
    """A text in which no net stands."""

    def __init__(self, at):
        self.at = at


class InvalidRun(NewsError):
    """A value that is no run."""

    def __init__(self, at):
        self.at = at


class InvalidPaper(NewsError):
    """A value that is no paper of the kind wanted."""

    def __init__(self, at):
        self.at = at


class InvalidQuestion(NewsError):
    """A question that cannot be asked."""

    def __init__(self, at):
        self.at = at


class Refused(NewsError):
    """A question that is not answered."""

    def __init__(self, at):
        self.at = at


class InvalidCommand(NewsError):
    """A command that cannot be done."""

    def __init__(self):
        # Without this the class would take any arguments, as ValueError does.
        pass
