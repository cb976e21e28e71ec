"""The refusals: one class for each, all under ChanceError, none under another."""


class ChanceError(ValueError):
    pass


class NoWalk(ChanceError):
    pass


class NoRooms(ChanceError):
    pass


class NoMarks(ChanceError):
    pass


class NoChoice(ChanceError):
    pass


class NoPicks(ChanceError):
    pass


class NoCosts(ChanceError):
    pass


class NoBegin(ChanceError):
    pass


class NoText(ChanceError):
    pass
