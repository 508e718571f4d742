"""The refusals: one family for what is told wrongly, one for what is asked and cannot be."""


class RaftError(ValueError):
    """Any refusal."""


class ToldError(RaftError):
    """What was told is not what it should be."""


class NoRaft(ToldError):
    """The thing is no raft."""


class NoFolk(ToldError):
    """The thing is no folk."""


class NoStanding(ToldError):
    """The thing is no standing of the folk on the raft."""


class NoPlaces(ToldError):
    """The thing is no places of those on the raft."""


class NoName(ToldError):
    """The thing is no name of those on the raft."""


class AskedError(RaftError):
    """What was told is right, but what is asked cannot be done."""


class Bumps(AskedError):
    """The gap would be below nought."""


class NotFront(AskedError):
    """The one of the name does not stand at place 0."""


class TooFar(AskedError):
    """The gap is more than the reach of the one who would step off."""

    def __init__(self, gap):
        super().__init__("the gap is more than their reach")
        self.gap = gap


class NothingLeft(AskedError):
    """Nothing is left that could be taken back."""
