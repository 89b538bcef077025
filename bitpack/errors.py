"""The refusals of bitpack."""


class PackError(ValueError):
    """Any refusal."""


class TooWide(PackError):
    """A number does not go into its width."""


class BadRecord(PackError):
    """A record does not fit its shape."""


class Short(PackError):
    """Bits end before a record is whole."""


class Wrong(PackError):
    """Bits go on as no record does."""


class Left(PackError):
    """Bits are left over behind a record."""


class NoBits(PackError):
    """A shape has a record without bits, so rows of its records can not be told apart."""
