"""All refusals of the package."""


class ClubError(ValueError):
    """Any refusal."""


class NoState(ClubError):
    """What was handed in is no state."""


class NoCents(ClubError):
    """What was handed in is no number of cents that can be here."""


class NoName(ClubError):
    """What was handed in is no name that can be here."""


class NoDeeds(ClubError):
    """What was handed in is no row of deeds."""


class NoTimes(ClubError):
    """What was handed in is no number of times."""


class NoMany(ClubError):
    """What was handed in is no number of folk."""


class NoPlace(ClubError):
    """What was handed in is no place among so many."""


class NoSeen(ClubError):
    """What was handed in is nothing that can have been seen."""


class NoPaid(ClubError):
    """What was handed in does not tell what folk have paid."""


class Nobody(ClubError):
    """A bill comes where nobody is in."""


class TooMuch(ClubError):
    """Bills would come above the most that they may come to."""


class Full(ClubError):
    """One comes where as many are in as there may be."""


class LastOne(ClubError):
    """The last one goes where there are bills."""


class NothingLeft(ClubError):
    """Nothing is left that could be taken back."""


class Twice(ClubError):
    """One comes who is in."""

    def __init__(self, name):
        super().__init__("one of this name is in")
        self.name = name


class NotIn(ClubError):
    """One goes who is not in."""

    def __init__(self, name):
        super().__init__("nobody of this name is in")
        self.name = name
