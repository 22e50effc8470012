"""Checks of what callers pass, for all files of the package."""

from whichstand.errors import BadAim, BadRow, BadStand, BadStands

LONGEST_ROW = 40
ROW_AIMS = ("first", "last", "home")
TREE_AIMS = ("first", "last")


def is_below(value, limit):
    """Tell whether any value is an integer from 0 to limit less 1."""
    # Python counts True and False among the integers, this package does not.
    if isinstance(value, bool) or not isinstance(value, int):
        return False
    return 0 <= value < limit


def is_ascending(values):
    """Tell whether each of some values that can be compared is less than the next one."""
    return all([one < other for one, other in zip(values, values[1:])])


def is_block(machine, value):
    """Tell whether any value is an ascending tuple of unlike stands of the machine, one at least."""
    if not isinstance(value, tuple) or len(value) == 0:
        return False
    # Only what is known to be integers is compared.
    return all([is_below(stand, len(machine)) for stand in value]) and is_ascending(value)


def check_stand(machine, value):
    """Raise BadStand for any value that is no stand of the machine."""
    if not is_below(value, len(machine)):
        raise BadStand("no stand of the machine")


def check_stands(machine, value):
    """Raise BadStands for any value that is no ascending tuple of stands of the machine."""
    if not is_block(machine, value):
        raise BadStands("no ascending tuple of stands of the machine")


def check_aim(value, aims):
    """Raise BadAim for any value that is none of some aims."""
    if value not in aims:
        raise BadAim("no aim")


def check_row(machine, value):
    """Raise BadRow for any value that is no row of letters of the machine."""
    if not isinstance(value, tuple) or len(value) > LONGEST_ROW:
        raise BadRow(None)
    for index, letter in enumerate(value):
        if not is_below(letter, machine.letters):
            raise BadRow(index)
