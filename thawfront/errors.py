"""The refusals, in the order in which they come where several are due at one call."""


class ThawError(ValueError):
    pass


class UnknownBed(ThawError):
    pass


class UnknownDeed(ThawError):
    pass


class BadBeds(ThawError):
    pass


class BadNeed(ThawError):
    pass


class BadHeat(ThawError):
    pass


class BadYear(ThawError):
    pass


class BadAmount(ThawError):
    pass


class BadTimes(ThawError):
    pass


class UnknownSeason(ThawError):
    pass


class TooManyLaid(ThawError):
    pass


class TooManyDeeds(ThawError):
    pass


class NothingDone(ThawError):
    pass
