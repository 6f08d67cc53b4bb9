"""The refusals of the program."""


class LarderError(ValueError):
    """A refusal, with the name that it tells in the field word."""

    def __init__(self, word):
        ValueError.__init__(self, word)
        self.word = word


class TooMuch(LarderError):
    """So much of the name is needed that nothing is bought."""


class Short(LarderError):
    """There is not enough of the name for all dishes."""
