"""The refusals of the program, each straight under LandError."""


class LandError(ValueError):
    """Any refusal."""


class BadSize(LandError):
    """What is no size of a field."""


class BadFence(LandError):
    """What is no fence."""


class TooMany(LandError):
    """More fences than may stand at once."""


class BadSpot(LandError):
    """What gives no spot."""


class BadWay(LandError):
    """What is no way."""


class NoLand(LandError):
    """Nothing is left where a spot of the land is asked for."""


class NoFence(LandError):
    """No fence of that number stands."""
