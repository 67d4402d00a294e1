"""The refusals of the program, each a MillError."""


class MillError(ValueError):
    """Any refusal."""


class BadDeed(MillError):
    """What was handed in is no deed."""


class BadReach(MillError):
    """A near goal is not reached."""


class NoDeed(MillError):
    """The words are those of no deed."""


class BadCount(MillError):
    """A place or a count is outside of its limits."""


class NoMend(MillError):
    """More is turned in a block than can be mended."""


class BadImage(MillError):
    """The thing of this number is not one that an image may have."""

    def __init__(self, number):
        super().__init__(f"wrong in the image: number {number}")
        self.number = number


class BadGiven(MillError):
    """The thing of this number is not one that may be given."""

    def __init__(self, number):
        super().__init__(f"wrong among the numbers given: number {number}")
        self.number = number


class BadList(MillError):
    """The thing of this number is not one that a list of deeds may have."""

    def __init__(self, number):
        super().__init__(f"wrong in the list of deeds: number {number}")
        self.number = number


class BadRow(MillError):
    """This row of a text is refused for this reason."""

    def __init__(self, row, why):
        super().__init__(f"row {row}: {why}")
        self.row = row
        self.why = why
