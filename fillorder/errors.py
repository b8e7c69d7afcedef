"""The errors that the package raises."""


class FillError(ValueError):
    """The base class of all errors of the package."""


class InvalidName(FillError):
    """A value is not a name."""


class InvalidCap(FillError):
    """A value is not a cap, or is less than the level."""


class InvalidLevel(FillError):
    """A value is not an integer from 0 to the cap."""


class InvalidFloor(FillError):
    """A value is not an integer from 0 to the cap."""


class InvalidAmount(FillError):
    """A value is not an amount."""


class InvalidText(FillError):
    """A value is not the text of an envelope or of a plan."""


class InvalidEnvelopes(FillError):
    """The values are not the envelopes of a plan."""


class InvalidPlace(FillError):
    """A value is not the index of an envelope."""


class InvalidDeed(FillError):
    """A value is not a deed."""


class UnknownEnvelope(FillError):
    """A plan has no envelope of this name."""


class NotEnough(FillError):
    """An amount is larger than what can be taken."""
