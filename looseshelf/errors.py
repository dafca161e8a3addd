"""What looseshelf refuses: each kind of thing that is none has its own error class."""


class ShelfError(ValueError):
    """Any refusal."""


class BadWidth(ShelfError):
    """A count of places that no shelf has."""


class BadRule(ShelfError):
    """A text that names no rule."""


class BadPattern(ShelfError):
    """A text that is no pattern: `at` is its first sign that can't stand there."""

    def __init__(self, at):
        ShelfError.__init__(self, f"no pattern, as its sign {at} shows")
        self.at = at


class BadDeed(ShelfError):
    """A deed that can't be done: `number` tells which one of a list, from 0."""

    def __init__(self, number):
        ShelfError.__init__(self, f"deed {number} can't be done")
        self.number = number


class BadKey(ShelfError):
    """A key that stands on the shelf already, or does not stand there."""


class BadNumber(ShelfError):
    """A number of moves or of deeds that is too low."""
