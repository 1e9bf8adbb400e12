"""The refusals, one class for each."""


class LandError(ValueError):
    """Any refusal."""


class NoText(LandError):
    """A text isn't well written."""


class OutOfBound(LandError):
    """A number, or how many there are of something, lies out of its bounds."""


class Taken(LandError):
    """A word is used already."""


class NoPerson(LandError):
    """Nobody of that name is in the book."""


class Gone(LandError):
    """One who should be alive is dead."""


class Never(LandError):
    """One who should come can never be born."""


class TooDeep(LandError):
    """A name or a layer lies too many steps below its beginning."""


class NoLand(LandError):
    """There is no such land."""


class NoLayer(LandError):
    """The land has no layer of that number."""


class NoSeat(LandError):
    """The layer has no such seat."""


class Shut(LandError):
    """The layer can never be open again."""


class NotWhole(LandError):
    """One who should be the only owner isn't."""


class Short(LandError):
    """More is asked for than is there."""


class NothingThere(LandError):
    """There is no order to be taken back or done again."""
