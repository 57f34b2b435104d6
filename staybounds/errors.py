"""The errors of the package: each kind of failure has a class of its own."""


class StayError(ValueError):
    """The base of all errors of this package."""


class InvalidBook(StayError):
    """What should be a book of rules is none."""


class InvalidCalendar(StayError):
    """What should be a calendar of the book is none."""


class InvalidZones(StayError):
    """What should be zones of the book are none."""


class Broken(StayError):
    """A calendar that must be allowed breaks a limit."""


class InvalidPast(StayError):
    """What should be a past, a calendar of five days, is none."""


class InvalidWeights(StayError):
    """What should be weights of the book are none."""


class InvalidLoop(StayError):
    """What should be a loop of the book is none."""


class InvalidFraction(StayError):
    """What should be a fraction within the bounds is none."""


class OtherZones(StayError):
    """Two books that must have the same zones have different ones."""


class InvalidNumber(StayError):
    """What should be a number within the bounds is none."""


class InvalidDays(StayError):
    """What should be days as the function asks for are none."""


class InvalidWishes(StayError):
    """What should be wishes of the book are none."""


class InvalidSighting(StayError):
    """What should be a sighting of the book is none."""


class NoneAllowed(StayError):
    """No allowed calendar fits the sighting."""


class OtherLength(StayError):
    """Two sightings that must be equally long have different numbers of days."""


class TooMany(StayError):
    """A sighting has too many unknown days."""


class InvalidGroup(StayError):
    """What should be a group is none."""


class TooLarge(StayError):
    """A group has too many tuples of pasts."""


class ParseError(StayError):
    """A text is not in the format."""


class InvalidName(StayError):
    """What should be a name is none."""


class Exists(StayError):
    """There is a traveller with the name already."""


class Full(StayError):
    """A desk has no place for one more traveller."""


class NoTraveller(StayError):
    """There is no traveller with the name."""


class InvalidEntries(StayError):
    """What should be the entries of a day are none."""


class TooLong(StayError):
    """No further day can pass at the desk."""


class InvalidLimits(StayError):
    """What should be the limits of the desk's book are none."""


class Taken(StayError):
    """There is an edition with the name already."""


class NoEdition(StayError):
    """There is no edition with the name."""


class NothingToUndo(StayError):
    """There is nothing to undo or to redo."""
