"""The refusals: one class for each kind, all of them HallError."""


class HallError(ValueError):
    """Any refusal."""


class BadWorld(HallError):
    """No world: part is 0 for weights, 1 for pairs, 2 for the rule; number is the first in it that can't be."""

    def __init__(self, part, number):
        super().__init__(f"no world: part {part}, number {number}")
        self.part = part
        self.number = number


class BadMeeting(HallError):
    """Meetings of which the one at this number is none."""

    def __init__(self, number):
        super().__init__(f"no meeting: number {number}")
        self.number = number


class BadWish(HallError):
    """A wish of which the row at this number can't be."""

    def __init__(self, number):
        super().__init__(f"no wish: number {number}")
        self.number = number


class BadPaper(HallError):
    """Rows of which the one at this number can't be."""

    def __init__(self, number):
        super().__init__(f"no paper: number {number}")
        self.number = number


class NoThing(HallError):
    """A thing that isn't in."""

    def __init__(self, number):
        super().__init__(f"no thing: number {number}")
        self.number = number


class BadDeed(HallError):
    """Deeds of which the one at this number is none, or is refused."""

    def __init__(self, number):
        super().__init__(f"no deed: number {number}")
        self.number = number


class BadCount(HallError):
    """A number, or how many there are, that can't be."""


class TooMany(HallError):
    """A world that comes to more weights than are looked at."""


class NoPair(HallError):
    """No two things of which this can be asked."""


class BadText(HallError):
    """A text of which this row can't be, or lacks."""

    def __init__(self, row):
        super().__init__(f"no such text: row {row}")
        self.row = row
