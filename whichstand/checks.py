"""Checks of what callers pass, for all files of the package."""

from whichstand.errors import BadRow, BadStand

LONGEST_ROW = 40


def is_below(value, limit):
    """Tell whether any value is an integer from 0 to limit less 1."""
    # Python counts True and False among the integers, this package does not.
    if isinstance(value, bool) or not isinstance(value, int):
        return False
    return 0 <= value < limit


def check_stand(machine, value):
    """Raise BadStand for any value that is no stand of the machine."""
    if not is_below(value, len(machine)):
        raise BadStand("no stand of the machine")


def check_row(machine, value):
    """Raise BadRow for any value that is no row of letters of the machine."""
    if not isinstance(value, tuple) or len(value) > LONGEST_ROW:
        raise BadRow(None)
    for index, letter in enumerate(value):
        if not is_below(letter, machine.letters):
            raise BadRow(index)
