"""Machines that read letters and write one for each."""

from whichstand.checks import check_row, check_stand, is_below
from whichstand.errors import BadTable

MOST_STANDS = 6
LETTER_COUNTS = (2, 3)
WRITTEN_LETTERS = 4


class Machine:
    """A machine: a table of stands, each with a step for each letter that is read."""

    def __init__(self, table):
        _check_table(table)
        self._table = table

    def __len__(self):
        return len(self._table)

    def __eq__(self, other):
        return isinstance(other, Machine) and self._table == other._table

    @property
    def table(self):
        """The tuple of rows, one for each stand."""
        return self._table

    @property
    def letters(self):
        """How many letters the machine reads."""
        return len(self._table[0])


def walk(machine, stand, row):
    """Return where a row leads from a stand and what is written, None if the stand cannot read it."""
    check_stand(machine, stand)
    check_row(machine, row)
    at = stand
    written = []
    for letter in row:
        step = machine.table[at][letter]
        if step is None:
            return None
        at = step[0]
        written.append(step[1])
    return at, tuple(written)


def _check_table(value):
    if not isinstance(value, tuple) or not 1 <= len(value) <= MOST_STANDS:
        raise BadTable(None)
    for index, steps in enumerate(value):
        # The first row is known to be a tuple once a later one is compared with it.
        if not _is_table_row(steps, len(value)) or len(steps) != len(value[0]):
            raise BadTable(index)


def _is_table_row(value, stands):
    if not isinstance(value, tuple) or len(value) not in LETTER_COUNTS:
        return False
    return all([_is_step(step, stands) for step in value])


def _is_step(value, stands):
    if value is None:
        return True
    if not isinstance(value, tuple) or len(value) != 2:
        return False
    return is_below(value[0], stands) and is_below(value[1], WRITTEN_LETTERS)
