"""The errors that the program raises."""


class SortesError(ValueError):
    """The base class of all errors that the program raises."""


class LimitError(SortesError):
    """Something is greater than the document allows."""


class ParseError(SortesError):
    """A text has not the form that it should have; `at` tells the place."""

    def __init__(self, at):
        self.at = at
