"""The errors of the package: all of them stand under SweepError alone."""


class SweepError(ValueError):
    """The one base class of all errors of the package."""


class InvalidFraction(SweepError):
    """A value that is no fraction of the kind that is asked for."""

    def __init__(self, given):
        self.given = given


class InvalidNumber(SweepError):
    """A value that is no whole number within the bounds that are asked for."""

    def __init__(self, given):
        self.given = given


class InvalidIndex(SweepError):
    """A value that is no index of a wall."""

    def __init__(self, given):
        self.given = given


class InvalidTable(SweepError):
    """A value that is no table, or none of the number of rows that is asked for."""

    def __init__(self, given):
        self.given = given


class InvalidMethod(SweepError):
    """A value that is no method for so many unknowns."""

    def __init__(self, given):
        self.given = given


class InvalidParting(SweepError):
    """A value that is no parting of the kind that is asked for."""

    def __init__(self, given):
        self.given = given


class InvalidFactor(SweepError):
    """A value that is no fraction other than 0."""

    def __init__(self, given):
        self.given = given


class InvalidShare(SweepError):
    """A value that is no fraction above 0 and below 2."""

    def __init__(self, given):
        self.given = given


class InvalidPolynomial(SweepError):
    """A value that is no polynomial of the kind that is asked for."""

    def __init__(self, given):
        self.given = given


class InvalidBounds(SweepError):
    """A value that is no pair of bounds."""

    def __init__(self, given):
        self.given = given


class InvalidRow(SweepError):
    """A row with a wrong number at the index, or (None) no row of so many numbers."""

    def __init__(self, index):
        self.index = index


class InvalidAmounts(SweepError):
    """Amounts with a wrong one at the index, or (None) no tuple of so many."""

    def __init__(self, index):
        self.index = index


class InvalidSteps(SweepError):
    """Late steps with a wrong one at the index, or (None) no tuple."""

    def __init__(self, index):
        self.index = index


class InvalidWalls(SweepError):
    """Walls with a wrong one at the index, or (None) no tuple of walls."""

    def __init__(self, index):
        self.index = index


class InvalidOrder(SweepError):
    """An order with a wrong index of a wall at the index, or (None) no order at all."""

    def __init__(self, index):
        self.index = index


class NoInverse(SweepError):
    """The table has no inverse."""


class NotSplit(SweepError):
    """What the method solves at once has no inverse."""


class NotSymmetric(SweepError):
    """The table is not symmetric."""


class NotPositive(SweepError):
    """The table is not positive, or not all tables within are inverse positive."""


class NotLevelled(SweepError):
    """The table has no levels."""


class NotBelow(SweepError):
    """Something that has to be below is not."""
