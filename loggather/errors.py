"""The refusals of the program, one class for each."""


class GatherError(ValueError):
    """Any refusal."""


class NoFit(GatherError):
    """A line does not fit a pattern, or words do not fit its holes."""


class NoJoin(GatherError):
    """No patterns at all, or patterns with unlike numbers of parts."""


class NoLine(GatherError):
    """A thing is no line."""


class NoMoment(GatherError):
    """A moment is less than that of the line that came last."""

    def __init__(self, last):
        # The moment is not in the text, because Python writes out no numbers of thousands of figures.
        GatherError.__init__(self, "the line that came last has a later moment")
        self.last = last


class NoPattern(GatherError):
    """A thing is no pattern, or not one that can be put, taken or asked for."""


class TooMany(GatherError):
    """There is no room for another one."""


class NothingLeft(GatherError):
    """Nothing is left to take back or to do again."""


class NoText(GatherError):
    """A text is not what is written of any pattern."""


class NoRow(GatherError):
    """A text is no row of the desk."""
