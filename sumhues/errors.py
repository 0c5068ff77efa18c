"""The refusals of the program."""


class HueError(ValueError):
    """Any refusal."""


class NoHues(HueError):
    """What should be a number of hues is none."""


class NoRow(HueError):
    """What should be a half row, or a row, is none."""


class NoRule(HueError):
    """What should be a rule is none."""


class NoNumber(HueError):
    """A whole number is none of those let."""


class NoHue(HueError):
    """A hue, or an order of all hues, is none."""


class NoLot(HueError):
    """What should be lots of numbers are none."""


class NoStep(HueError):
    """What should be forced steps are none."""


class NoPaper(HueError):
    """What should be a paper for a half row is none."""


class NoClean(HueError):
    """A row that should be clean has a clash."""


class TooMany(HueError):
    """There are more numbers or hues than are gone through."""


class NoText(HueError):
    """A text is not what is written of a half row."""


class NoLine(HueError):
    """A line is none that a desk knows."""


class NoDeed(HueError):
    """No deed stands that could be undone."""
