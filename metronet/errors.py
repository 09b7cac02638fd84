"""The errors of the program."""


class MetronetError(ValueError):
    """The base class of all errors of the program."""

    def __init__(self, place):
        super().__init__(f"wrong at {place}")
        self.place = place
        self.name = self.__class__.__name__


class InvalidText(MetronetError):
    """A text that is not one of a net and a plan; the place is the number of the line."""
