"""The refusals of Pinshelf, a class for each kind."""


class ShelfError(ValueError):
    """Any refusal."""


class BadShelf(ShelfError):
    """A shelf that can't be."""

    def __init__(self, part, number):
        ShelfError.__init__(self, f"part {part}, number {number}")
        self.part = part
        self.number = number


class BadGoal(ShelfError):
    """A goal that can't be."""

    def __init__(self, number):
        ShelfError.__init__(self, f"number {number}")
        self.number = number


class BadWish(ShelfError):
    """A wish that can't be."""

    def __init__(self, number):
        ShelfError.__init__(self, f"number {number}")
        self.number = number


class BadWay(ShelfError):
    """A list of deeds that can't be done."""

    def __init__(self, number, why):
        ShelfError.__init__(self, f"number {number}, {why}")
        self.number = number
        self.why = why


class NoWay(ShelfError):
    """A goal that can't be come to."""


class BadName(ShelfError):
    """A name that can't be."""


class NoPoint(ShelfError):
    """A name that nothing was marked by."""


class Halted(ShelfError):
    """A batch that was halted."""

    def __init__(self, number, done):
        ShelfError.__init__(self, f"number {number}, done {done}")
        self.number = number
        self.done = done


class BadText(ShelfError):
    """A text that is no shelf by its words."""

    def __init__(self, row):
        ShelfError.__init__(self, f"row {row}")
        self.row = row
