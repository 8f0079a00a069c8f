"""The refusals of the program."""


class WrapError(ValueError):
    """Any refusal."""


class NoWidth(WrapError):
    """A width is below 1."""


class LongWord(WrapError):
    """A word does not fit the width."""


class NoStarts(WrapError):
    """A list of places is not the starts of lines of the words."""


class TooWide(WrapError):
    """A line does not fit the width."""


class TooFew(WrapError):
    """The words do not fit into that few lines."""


class TooMany(WrapError):
    """There are fewer words than lines."""


class NoPlace(WrapError):
    """A place is none of the page's."""


class NoWord(WrapError):
    """A text is no word."""


class Full(WrapError):
    """The page takes no further word."""


class NoWayBack(WrapError):
    """There is no deed to take back."""
