"""The errors that the program raises."""


class TalkError(ValueError):
    """The base class of all of them."""


class BadText(TalkError):
    """A text of which the word with the index `at` is wrong, or missing."""

    def __init__(self, at):
        super().__init__(f"word {at} is wrong or missing")
        self.at = at


class UnknownName(TalkError):
    """A name that nothing has here."""


class NotAllowed(TalkError):
    """Something that is understood, and not allowed."""
