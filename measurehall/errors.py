"""What the program refuses, one class for each kind of refusal."""


class HallError(ValueError):
    """Any refusal."""


class BadMachine(HallError):
    """No machine; row is the first row that can't be, or -1."""

    def __init__(self, row):
        super().__init__(f"no machine: row {row}")
        self.row = row


class BadQuestion(HallError):
    """No question."""


class BadSeed(HallError):
    """No seed."""


class BadText(HallError):
    """No written machine; row is the first line that writes no row."""

    def __init__(self, row):
        super().__init__(f"no written machine: row {row}")
        self.row = row


class BadTask(HallError):
    """No task; number is that of the first question that can't be, or -1."""

    def __init__(self, number):
        super().__init__(f"no task: question {number}")
        self.number = number


class BadName(HallError):
    """No name."""


class TooMany(HallError):
    """One more than there may be."""


class Taken(HallError):
    """There is such a one already."""


class NoMachine(HallError):
    """There is no machine of that name."""


class NoTask(HallError):
    """There is no task of that name."""


class BadScore(HallError):
    """No score that a run of the task may come to."""


class NoRun(HallError):
    """There is no run of that number that counts."""


class NotRanked(HallError):
    """The machine has no rank."""


class BadShare(HallError):
    """No share."""


class NotAhead(HallError):
    """The first machine's mean is not greater than the other's."""


class NoPage(HallError):
    """There is no page of that number."""


class BadDeed(HallError):
    """No list of deeds; number is that of the first that is none."""

    def __init__(self, number):
        super().__init__(f"no deed: number {number}")
        self.number = number
