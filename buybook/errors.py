"""The errors that the program raises."""


class BookError(ValueError):
    """The base class of all errors of the program."""


class BadText(BookError):
    """A text is not of the form that is asked for; `at` says where it goes wrong."""

    def __init__(self, at):
        BookError.__init__(self, f"the text is wrong at {at}")
        self.at = at


class UnknownName(BookError):
    """There is nothing of this name."""


class NotAllowed(BookError):
    """What is asked for is against a rule."""
