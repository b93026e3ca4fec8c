"""The refusals of the program, each of them a ValueError."""


class LoopError(ValueError):
    """Any refusal."""


class BadRow(LoopError):
    """Rows that are no list, a row that has none of the forms, or a sign that is none."""


class BadName(LoopError):
    """A thing that is no name, where a name is wanted."""


class BadNumber(LoopError):
    """A thing that is neither a name nor a number, where one of them is wanted."""


class BadLine(LoopError):
    """A line that writes nothing, an end without a block, or a block without an end."""

    def __init__(self, place):
        super().__init__(f"line {place} is wrong")
        self.place = place


class TooDeep(LoopError):
    """A block that lies in more blocks than it may."""

    def __init__(self, place):
        super().__init__(f"the block at {place} lies too deep")
        self.place = place
