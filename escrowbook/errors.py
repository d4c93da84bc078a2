"""The refusals: BookError, and one class right under it for each reason."""


class BookError(ValueError):
    """Any refusal."""


class NoName(BookError):
    """What was handed in is no name."""


class NoAmount(BookError):
    """What was handed in is no amount."""


class Taken(BookError):
    """A purse of that name is open, or a pact of that name was told."""


class NoPurse(BookError):
    """There is no purse of that name."""


class TooLittle(BookError):
    """The purse has less free than is wanted."""


class NoRow(BookError):
    """The list has too few or too many items."""


class Twice(BookError):
    """A name stands twice where it may stand once."""


class Uneven(BookError):
    """The parts and the gains have different sums."""


class Fallen(BookError):
    """A pact that is needed has fallen."""


class NoDay(BookError):
    """What was handed in is no day, or no count of days, that will do."""


class NoPact(BookError):
    """No pact of that name was told."""


class NotOpen(BookError):
    """The pact is done or fallen."""


class NoPart(BookError):
    """The pact has no part of that purse."""


class Already(BookError):
    """The part is set aside already."""


class NotAside(BookError):
    """Nothing of that purse is set aside for the pact."""
