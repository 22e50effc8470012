"""How many small machines have rows that tell the first stand or the last one."""

from whichstand.checks import is_below
from whichstand.errors import BadSize
from whichstand.machines import Machine
from whichstand.rows import least_row

MOST = 2


def census(stands, written):
    """Return how many tables have a row for the first stand, of the others for the last one, for neither."""
    if not _is_size(stands) or not _is_size(written):
        raise BadSize("no size that a census counts")
    first = last = 0
    tables = _all_tables(stands, written)
    possible = tuple(range(stands))
    for table in tables:
        machine = Machine(table)
        if least_row(machine, possible, "first") is not None:
            first += 1
        elif least_row(machine, possible, "last") is not None:
            last += 1
    return first, last, len(tables) - first - last


def _is_size(value):
    return is_below(value, MOST + 1) and value > 0


def _all_tables(stands, written):
    steps = [(following, letter) for following in range(stands) for letter in range(written)]
    rows = [(one, other) for one in steps for other in steps]
    tables = [()]
    for _ in range(stands):
        tables = [table + (row,) for table in tables for row in rows]
    return tables
