"""All errors of the program."""


class BrimfulError(ValueError):
    """The base class of all errors of the program."""


class BadStep(BrimfulError):
    """What should be a program, or a part of one, is none."""


class BadMemory(BrimfulError):
    """A memory, inputs or bits do not belong to what they are given to."""


class BadSource(BrimfulError):
    """What should be a source is none."""


class BadText(BrimfulError):
    """A text is not the textual form of a source."""


class TooLong(BrimfulError):
    """A program, a word or a decision would take too many steps."""


class BadWord(BrimfulError):
    """What should be a word, a cycle or a point is none."""


class BadGate(BrimfulError):
    """What should be a list of gates is none."""


class BadTree(BrimfulError):
    """What should be a tree of functions is none."""


class Busy(BrimfulError):
    """A loan is blocked by another one, or its program is not finished."""


class BadTicket(BrimfulError):
    """A ticket is not that of an open loan."""


class BadLine(BrimfulError):
    """A line is none that the desk can follow now."""
