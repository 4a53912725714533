"""The refusals, one class each."""


class WallError(ValueError):
    pass


class Full(WallError):
    pass


class NoNote(WallError):
    pass


class NoThread(WallError):
    pass


class Busy(WallError):
    pass


class NoRound(WallError):
    pass


class NoView(WallError):
    pass
