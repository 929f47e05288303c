"""The errors that the package raises."""


class ReadingError(ValueError):
    """The base class of all errors of the package."""


class InvalidWeighting(ReadingError):
    """Masses (part 0), stretches (part 1) or both (part 2) that make no weighting."""

    def __init__(self, part, index):
        super().__init__(f"part {part}, index {index}")
        self.part = part
        self.index = index


class InvalidNumber(ReadingError):
    """A power, a count, a degree, a scale or the like that is out of its range."""


class InvalidPolynomial(ReadingError):
    """A polynomial of too many coefficients."""


class InvalidPlaces(ReadingError):
    """Places that are none, too many, not ascending, or no fractions."""

    def __init__(self, index):
        super().__init__(f"index {index}")
        self.index = index


class InvalidWeights(ReadingError):
    """Weights that are no fractions, or not as many as the places."""

    def __init__(self, index):
        super().__init__(f"index {index}")
        self.index = index


class TooFew(ReadingError):
    """A weighting that has too few masses, and no stretch, for what is asked."""


class InvalidFraction(ReadingError):
    """A fraction with the bottom 0."""


class InvalidSums(ReadingError):
    """Sums of powers that are none, too many, or no fractions."""

    def __init__(self, index):
        super().__init__(f"index {index}")
        self.index = index


class NoWeighting(ReadingError):
    """Sums of powers that no weighting has."""


class InvalidReadings(ReadingError):
    """Readings that are no fractions, or not as many as the places."""

    def __init__(self, index):
        super().__init__(f"index {index}")
        self.index = index


class UnknownPlace(ReadingError):
    """An index at which there is no place."""


class InvalidMass(ReadingError):
    """A mass that can not be added."""


class InvalidStretch(ReadingError):
    """A stretch that can not be laid."""


class NoMass(ReadingError):
    """A place at which there is no mass."""


class NothingLeft(ReadingError):
    """A weighting that would be left with nothing."""


class InvalidMove(ReadingError):
    """A move by no integer, or out of the line."""


class InvalidName(ReadingError):
    """A name that is not one to eight letters a to z."""


class UnknownKept(ReadingError):
    """A name under which nothing is kept."""


class InvalidOperation(ReadingError):
    """An item of a list of operations that is none."""

    def __init__(self, index):
        super().__init__(f"index {index}")
        self.index = index


class Clash(ReadingError):
    """A reading that no polynomial has together with the others."""


class InvalidText(ReadingError):
    """A text that tells no weighting."""

    def __init__(self, row, word):
        super().__init__(f"row {row}, word {word}")
        self.row = row
        self.word = word


class DecodeError(ReadingError):
    """A list of integers that tells no weighting."""

    def __init__(self, offset):
        super().__init__(f"offset {offset}")
        self.offset = offset


class ScriptError(ReadingError):
    """A text that is no script."""

    def __init__(self, row):
        super().__init__(f"row {row}")
        self.row = row


class ExecutionFailed(ReadingError):
    """A row of a script that raised an error."""

    def __init__(self, row):
        super().__init__(f"row {row}")
        self.row = row


class TooLong(ReadingError):
    """A script that takes too many steps."""
