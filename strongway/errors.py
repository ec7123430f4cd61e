"""The refusals: one class for each, and one that stands for any of them."""


class VoteError(ValueError):
    pass


class NoBallot(VoteError):
    pass


class NoChoice(VoteError):
    pass


class NoLine(VoteError):
    pass
