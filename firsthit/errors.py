"""The refusals: each is a HitError, and none stands under another."""


class HitError(ValueError):
    pass


class NoRay(HitError):
    pass


class NoShape(HitError):
    pass


class NotClosed(HitError):
    pass


class BadRow(HitError):
    pass
