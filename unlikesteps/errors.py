"""The refusals of the program, a class for each."""


class StepError(ValueError):
    """Any refusal of the program."""


class NoBoard(StepError):
    """What was handed in as a board is none."""


class NoLay(StepError):
    """What was handed in as a lay is none of its board."""


class NoNumber(StepError):
    """What was handed in as a whole number is none of those let."""


class NoPoints(StepError):
    """What was handed in as a list of points makes no lay."""


class NoPoint(StepError):
    """No point lies where one is asked for, or none may be put there."""


class NoPaper(StepError):
    """What was handed in as a paper is none for the lay."""


class NoUnlike(StepError):
    """A lay that should be unlike has like steps."""


class NoPrime(StepError):
    """What was handed in as a prime is none of those let."""


class NoRoot(StepError):
    """What was handed in as a root of a prime is none."""


class NoTurn(StepError):
    """What was handed in as a turn is none."""


class TooFew(StepError):
    """A board has too few lines or rows to lose one."""


class TooMany(StepError):
    """A board has too many lines or rows."""


class NoText(StepError):
    """What was handed in as a text writes no lay."""


class NoLine(StepError):
    """What a desk was told is no line that it knows."""


class NoDeed(StepError):
    """No deed stands that could be undone."""
