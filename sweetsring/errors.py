"""The errors of the package."""


class SweetError(ValueError):
    """The base class of all errors of the package."""


class BadChildren(SweetError):
    """The number of children is no integer from 2 to 12."""


class BadParts(SweetError):
    """The number of parts is no integer from 2 to 9."""


class BadSteps(SweetError):
    """The steps as a whole are wrong (index None), or the one at the index is."""

    def __init__(self, index):
        self.index = index


class BadSweets(SweetError):
    """The sweets as a whole are wrong (index None), or the number at the index is."""

    def __init__(self, index):
        self.index = index


class BadRounds(SweetError):
    """The number of rounds is no integer from 0 to 2000."""


class BadMost(SweetError):
    """The most sweets of a start are no integer from 0 to 9."""


class BadRows(SweetError):
    """The rows as a whole are wrong (index None), or the one at the index is."""

    def __init__(self, index):
        self.index = index


class BadSeen(SweetError):
    """What was seen is wrong as a whole (index None), or the thing at the index is."""

    def __init__(self, index):
        self.index = index


class TooMany(SweetError):
    """The game has too many children, or the sweets are too many, for this question."""


class BadChild(SweetError):
    """The child is none of the game."""


class BadGift(SweetError):
    """The gift is no integer, or leaves a child with a number that cannot be."""


class BadText(SweetError):
    """The text is no string (word None), or the word at this index is wrong or lacks."""

    def __init__(self, word):
        self.word = word
