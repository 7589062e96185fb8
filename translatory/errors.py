"""The errors of the program."""


class TranslatoryError(ValueError):
    """The base class of all errors of the program."""


class InvalidMachine(TranslatoryError):
    """A machine breaks the rules of its kind."""


class InvalidText(TranslatoryError):
    """A text is not what it should be; `line` is the line, counted from 1."""

    def __init__(self, line):
        super().__init__(f"line {line} is wrong")
        self.line = line


class TooLong(TranslatoryError):
    """A run is longer than `limit`."""

    def __init__(self, limit):
        super().__init__(f"longer than {limit}")
        self.limit = limit


class TooLarge(TranslatoryError):
    """Something is larger than `limit`."""

    def __init__(self, limit):
        super().__init__(f"larger than {limit}")
        self.limit = limit


class NotFitting(TranslatoryError):
    """A translation or a paper does not fit the machine or the configuration."""


class InvalidFunction(TranslatoryError):
    """Something is no recursive function."""


class BadArgument(TranslatoryError):
    """An argument is out of its range."""
