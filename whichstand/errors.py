"""The errors of the package."""


class StandError(ValueError):
    """The base class of all errors here."""


class BadTable(StandError):
    """No table of a machine; index is that of its first bad row, or None."""

    def __init__(self, index):
        super().__init__(f"no table of a machine, index {index}")
        self.index = index


class BadStands(StandError):
    """No ascending tuple of stands of the machine."""


class BadStand(StandError):
    """No stand of the machine."""


class BadRow(StandError):
    """No row of letters of the machine; index is that of its first bad letter, or None."""

    def __init__(self, index):
        super().__init__(f"no row of letters of the machine, index {index}")
        self.index = index


class BadAim(StandError):
    """No aim."""


class BadSize(StandError):
    """No size that a census counts."""


class BadLetter(StandError):
    """No letter that the machine reads or writes."""


class NoStand(StandError):
    """No possible stand writes what was seen."""


class Full(StandError):
    """A watch that has seen all that it can."""


class InvalidText(StandError):
    """No text of a machine; line and word, counted from 1, tell where."""

    def __init__(self, line, word):
        super().__init__(f"no text of a machine, line {line}, word {word}")
        self.line = line
        self.word = word


class BadSides(StandError):
    """No sides for the stands of the machine."""


class BadCosts(StandError):
    """No costs for the letters of the machine."""


class BadChange(StandError):
    """No change of a step of the machine."""
