"""The errors with which a call is refused, one class for each."""


class NoReservoir(Exception):
    """No create has succeeded yet."""


class NoSuchCell(Exception):
    """The cell doesn't exist."""


class OutOfRange(Exception):
    """A parameter is outside its range."""


class NoSavedProfile(Exception):
    """No profile is saved."""


class DifferentCells(Exception):
    """The profiles have different cells."""


class NoBreakthrough(Exception):
    """There is no breakthrough within the forecast."""


class DenominatorTooLarge(Exception):
    """A denominator would become too large."""
