"""Rows that tell the last stand or the first one, or lead home, and papers that none does."""

from whichstand.checks import ROW_AIMS, check_aim, check_row, check_stands
from whichstand.lots import is_done, is_lot, lead_lot
from whichstand.machines import walk


def reaches(machine, stands, aim, row):
    """Tell whether a row reaches an aim from some stands."""
    check_stands(machine, stands)
    check_aim(aim, ROW_AIMS)
    check_row(machine, row)
    walks = [walk(machine, stand, row) for stand in stands]
    if None in walks:
        return False
    if aim == "home":
        return len({at for at, _ in walks}) == 1
    unlike = len({written for _, written in walks})
    if aim == "first":
        return unlike == len(walks)
    # Those that write alike end alike if and only if no writing has two ends.
    return unlike == len(set(walks))


def least_row(machine, stands, aim):
    """Return the least of the shortest rows that reach an aim from some stands, None if there is none."""
    check_stands(machine, stands)
    check_aim(aim, ROW_AIMS)
    row, _ = _search(machine, stands, aim)
    return row


def paper(machine, stands, aim):
    """Return the ascending list of all lots that rows lead to, None if some row reaches the aim."""
    check_stands(machine, stands)
    check_aim(aim, ROW_AIMS)
    row, lots = _search(machine, stands, aim)
    if row is not None:
        return None
    return lots


def shows(machine, stands, aim, value):
    """Tell whether any value is a closed list of lots that shows that no row reaches the aim."""
    check_stands(machine, stands)
    check_aim(aim, ROW_AIMS)
    if not isinstance(value, (list, tuple)):
        return False
    # Only lots are compared with each other: (True,) would equal (1,).
    if not all([is_lot(machine, lot) for lot in value]):
        return False
    lots = {lot: True for lot in value}
    if (stands,) not in lots:
        return False
    return all([_is_closed(machine, lot, aim, lots) for lot in value])


def _is_closed(machine, lot, aim, lots):
    if is_done(lot):
        return False
    reached = [lead_lot(machine, lot, letter, aim) for letter in range(machine.letters)]
    return all([following is None or following in lots for following in reached])


def _search(machine, stands, aim):
    # Lots wait in the order of their rows, shorter ones first and then lesser ones,
    # so the row of the first lot that is done is the one that is asked for.
    start = (stands,)
    rows = {start: ()}
    waiting = [start]
    while waiting:
        lot = waiting.pop(0)
        if is_done(lot):
            return rows[lot], sorted(rows)
        for letter in range(machine.letters):
            reached = lead_lot(machine, lot, letter, aim)
            if reached is not None and reached not in rows:
                rows[reached] = rows[lot] + (letter,)
                waiting.append(reached)
    return None, sorted(rows)
