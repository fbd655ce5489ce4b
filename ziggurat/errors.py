"""The errors that the program raises."""


class ZigguratError(ValueError):
    """The base class of all errors that the program raises."""


class LimitError(ZigguratError):
    """Something is longer, deeper, higher or larger than it may be."""


class FormError(ZigguratError):
    """A text is that of a program that is not well formed."""


class ParseError(ZigguratError):
    """A text cannot go on as it does at the index `at`."""

    def __init__(self, at):
        super().__init__(f"the text cannot go on like this at {at}")
        self.at = at
