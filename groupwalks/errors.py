"""The refusals: each straight under WalkError, so that one name takes them all."""


class WalkError(ValueError):
    pass


class TooMany(WalkError):
    pass


class NotLevel(WalkError):
    pass


class NoLift(WalkError):
    pass


class NoTwist(WalkError):
    pass


class NotPlain(WalkError):
    pass


class NoName(WalkError):
    pass


class BadNote(WalkError):
    pass
