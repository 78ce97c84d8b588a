"""The refusals, one class for each, all of them under RoofError."""


class RoofError(ValueError):
    pass


class BadMeasure(RoofError):
    pass


class UnknownCourse(RoofError):
    pass


class NotFilled(RoofError):
    pass


class NearBroken(RoofError):
    pass


class FarBroken(RoofError):
    pass


class BadHeight(RoofError):
    pass


class NoRoof(RoofError):
    pass


class NotRoof(RoofError):
    pass


class RoofFull(RoofError):
    pass


class BareRoof(RoofError):
    pass


class DeedsSpent(RoofError):
    pass


class NoDeed(RoofError):
    pass
