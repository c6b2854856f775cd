"""The errors of the program."""


class MuffError(ValueError):
    """The base of all errors of the program."""


class BadText(MuffError):
    """A text is no written form; at is the index of the first wrong character."""

    def __init__(self, at):
        self.at = at


class BadRole(MuffError):
    """A role is not sound; step is -1 if the role is wrong without its steps."""

    def __init__(self, step, role=-1):
        self.step = step
        self.role = role


class BadWorld(MuffError):
    """Roles, sessions and good hosts do not make a world."""


class BadMove(MuffError):
    """A run has an impossible move; at is the index of the first one."""

    def __init__(self, at):
        self.at = at


class BadClaim(MuffError):
    """A claim does not fit its world."""


class TooLarge(MuffError):
    """A result would be larger than the program allows."""


class BadRows(MuffError):
    """Two rows or two worlds cannot be compared."""


class BadEdit(MuffError):
    """Edits name a step that does not exist, or one step twice."""


class BadJoin(MuffError):
    """Two worlds cannot be joined, or the parts of a world are not apart."""


class UnknownName(MuffError):
    """What is named or numbered does not exist."""


class BadTunnel(MuffError):
    """A tunnel cannot be made, or cannot do what is asked of it."""


class BadLine(MuffError):
    """A line has not the form that is due; line is its number, from 1."""

    def __init__(self, line):
        self.line = line
