"""The refusals of Eldermap."""


# Any refusal.
class MapError(ValueError):
    pass


# A whole number that is the number of no version.
class NoVersion(MapError):
    pass


# A text that is no name.
class NoName(MapError):
    pass
