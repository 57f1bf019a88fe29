"""The errors that the program raises."""


class PlayError(ValueError):
    """The base class of all errors of the program."""


class BadText(PlayError):
    """A text that cannot be read; `at` is the index of the word that does not fit."""

    def __init__(self, at):
        super().__init__(f"word {at} does not fit")
        self.at = at


class BadPaper(PlayError):
    """A paper that cannot be read; `at` is the index of the line that cannot stand there."""

    def __init__(self, at):
        super().__init__(f"line {at} cannot stand there")
        self.at = at


class BadCall(PlayError):
    """A call of a procedure that there is not, or with a negative number."""


class BadPlayer(PlayError):
    """A player that does not fit a game, or games with different faces."""


class BadStep(PlayError):
    """A step that does not hold; `rule` is the name of its rule."""

    def __init__(self, rule):
        super().__init__(f"the step {rule} does not hold")
        self.rule = rule


class BadBound(PlayError):
    """A ratio or a bound with numbers that it may not have."""


class TooLarge(PlayError):
    """Too much to be computed; `what` tells what there is too much of."""

    def __init__(self, what):
        super().__init__(f"too many: {what}")
        self.what = what
