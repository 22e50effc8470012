"""Rows that tell on which side a machine began, and papers that none does."""

from whichstand.checks import check_row, is_ascending, is_below
from whichstand.errors import BadSides
from whichstand.machines import walk
from whichstand.searches import is_closed, search

SIDES = 6


def tells_side(machine, sides, row):
    """Tell whether a row tells the side."""
    _check_sides(machine, sides)
    check_row(machine, row)
    sides_by_writing = {}
    for stand, side in _first_block(sides):
        end = walk(machine, stand, row)
        if end is None or sides_by_writing.setdefault(end[1], side) != side:
            return False
    return True


def least_side_row(machine, sides):
    """Return the least of the shortest rows that tell the side, None if there is none."""
    _check_sides(machine, sides)
    row, _ = _search_lots(machine, sides)
    return row


def side_paper(machine, sides):
    """Return the ascending list of all lots that rows lead to, None if some row tells the side."""
    _check_sides(machine, sides)
    row, lots = _search_lots(machine, sides)
    if row is not None:
        return None
    return sorted(lots)


def side_shows(machine, sides, value):
    """Tell whether any value is a closed list of lots that shows that no row tells the side."""
    _check_sides(machine, sides)
    if not isinstance(value, (list, tuple)):
        return False
    # Only lots are compared with each other, as Python takes True and False for 1 and 0.
    if not all([_is_lot(machine, lot) for lot in value]):
        return False
    return is_closed(
        (_first_block(sides),),
        value,
        machine.letters,
        lambda lot, letter: _lead_lot(machine, lot, letter),
        _is_told,
    )


def _search_lots(machine, sides):
    return search(
        (_first_block(sides),),
        machine.letters,
        lambda lot, letter: _lead_lot(machine, lot, letter),
        _is_told,
    )


def _first_block(sides):
    return tuple([(stand, side) for stand, side in enumerate(sides) if side is not None])


def _is_told(lot):
    return all([len({side for _, side in block}) == 1 for block in lot])


def _lead_lot(machine, lot, letter):
    blocks = {}
    for block in lot:
        parts = _lead_block(machine, block, letter)
        if parts is None:
            return None
        for part in parts:
            blocks[part] = True
    return tuple(sorted(blocks))


def _lead_block(machine, block, letter):
    # The blocks to which a letter leads, one for each letter that is written, None if it leads nowhere.
    parts = {}
    for stand, side in block:
        step = machine.table[stand][letter]
        if step is None:
            return None
        following, written = step
        part = parts.setdefault(written, {})
        if part.setdefault(following, side) != side:
            # Two of unlike sides that come together can never be told apart again.
            return None
    return [tuple(sorted(sides.items())) for sides in parts.values()]


def _is_lot(machine, value):
    if not isinstance(value, tuple) or len(value) == 0:
        return False
    # Only what is known to be blocks is compared.
    return all([_is_block(machine, block) for block in value]) and is_ascending(value)


def _is_block(machine, value):
    if not isinstance(value, tuple) or len(value) == 0:
        return False
    if not all([_is_place(machine, place) for place in value]):
        return False
    return is_ascending([stand for stand, _ in value])


def _is_place(machine, value):
    if not isinstance(value, tuple) or len(value) != 2:
        return False
    return is_below(value[0], len(machine)) and is_below(value[1], SIDES)


def _check_sides(machine, value):
    if not isinstance(value, tuple) or len(value) != len(machine):
        raise BadSides("no tuple of a side for each stand")
    if not all([side is None or is_below(side, SIDES) for side in value]):
        raise BadSides("a side is no integer from 0 to 5, and not None")
    if all([side is None for side in value]):
        raise BadSides("no stand has a side")
