"""Rows that tell the last stand or the first one, or lead home, and papers that none does."""

from whichstand.checks import ROW_AIMS, check_aim, check_row, check_stands
from whichstand.lots import is_done, is_lot, lead_lot
from whichstand.machines import walk
from whichstand.searches import is_closed, search


def reaches(machine, stands, aim, row):
    """Tell whether a row reaches an aim from some stands."""
    check_stands(machine, stands)
    check_aim(aim, ROW_AIMS)
    check_row(machine, row)
    walks = [walk(machine, stand, row) for stand in stands]
    if None in walks:
        return False
    if aim == "home":
        return len({at for at, _ in walks}) == 1
    unlike = len({written for _, written in walks})
    if aim == "first":
        return unlike == len(walks)
    # Those that write alike end alike if and only if no writing has two ends.
    return unlike == len(set(walks))


def least_row(machine, stands, aim):
    """Return the least of the shortest rows that reach an aim from some stands, None if there is none."""
    check_stands(machine, stands)
    check_aim(aim, ROW_AIMS)
    row, _ = _search_lots(machine, stands, aim)
    return row


def paper(machine, stands, aim):
    """Return the ascending list of all lots that rows lead to, None if some row reaches the aim."""
    check_stands(machine, stands)
    check_aim(aim, ROW_AIMS)
    row, lots = _search_lots(machine, stands, aim)
    if row is not None:
        return None
    return sorted(lots)


def shows(machine, stands, aim, value):
    """Tell whether any value is a closed list of lots that shows that no row reaches the aim."""
    check_stands(machine, stands)
    check_aim(aim, ROW_AIMS)
    if not isinstance(value, (list, tuple)):
        return False
    # Only lots are compared with each other: (True,) would equal (1,).
    if not all([is_lot(machine, lot) for lot in value]):
        return False
    return is_closed(
        (stands,),
        value,
        machine.letters,
        lambda lot, letter: lead_lot(machine, lot, letter, aim),
        is_done,
    )


def _search_lots(machine, stands, aim):
    return search(
        (stands,),
        machine.letters,
        lambda lot, letter: lead_lot(machine, lot, letter, aim),
        is_done,
    )
