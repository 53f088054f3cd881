"""The refusals of the program."""


class TrackError(ValueError):
    """Any refusal."""


class NoFact(TrackError):
    """What was handed in is no fact, no crossing or no name of the ground."""


class NoSuch(TrackError):
    """What was asked for isn't there."""


class Full(TrackError):
    """There is no room for more."""


class Ring(TrackError):
    """A fact can't be with the facts that stand; row holds the numbers of those that make the ring."""

    def __init__(self, row):
        TrackError.__init__(self, f"makes a ring with the facts {row}")
        self.row = list(row)


class BadText(TrackError):
    """A text isn't a ground; row is the number of the first row that can't stand."""

    def __init__(self, row):
        TrackError.__init__(self, f"row {row} can't stand")
        self.row = row
