"""The refusals of the program."""


class ShowError(ValueError):
    """Any refusal."""


class Unread(ShowError):
    """A text that is not that of a statement."""


class TooLarge(ShowError):
    """A statement of too many parts to be searched."""


class NoWorld(ShowError):
    """A number of which there is no world."""
