"""Which changes of a step a row shows, or none ever does."""

from whichstand.checks import check_row
from whichstand.errors import BadChange
from whichstand.machines import WRITTEN_LETTERS, Machine, walk
from whichstand.searches import search

FIRST_STAND = 0

# The state of a search in which the two machines have differed.
SEEN = ()


def is_seen(machine, change, row):
    """Tell whether a row shows a change, None if the machine cannot read it."""
    _check_change(machine, change)
    check_row(machine, row)
    return _is_shown(machine, change, row)


def least_seen(machine, change):
    """Return the least of the shortest rows that show a change, None if there is none."""
    _check_change(machine, change)
    return _find_row(machine, change)


def never_seen(machine):
    """Return the ascending list of all changes that no row shows."""
    return [change for change in _all_changes(machine) if _find_row(machine, change) is None]


def count_seen(machine, row):
    """Return how many changes a row shows, None if the machine cannot read it."""
    check_row(machine, row)
    if walk(machine, FIRST_STAND, row) is None:
        return None
    return len([change for change in _all_changes(machine) if _is_shown(machine, change, row)])


def _is_shown(machine, change, row):
    end = walk(machine, FIRST_STAND, row)
    if end is None:
        return None
    changed_end = walk(_changed(machine, change), FIRST_STAND, row)
    return changed_end is None or changed_end[1] != end[1]


def _find_row(machine, change):
    changed = _changed(machine, change)
    row, _ = search(
        (FIRST_STAND, FIRST_STAND),
        machine.letters,
        lambda state, letter: _lead_both(machine, changed, state, letter),
        lambda state: state == SEEN,
    )
    return row


def _lead_both(machine, changed, state, letter):
    at, changed_at = state
    step = machine.table[at][letter]
    changed_step = changed.table[changed_at][letter]
    if step is None:
        return None
    if changed_step is None or changed_step[1] != step[1]:
        return SEEN
    return step[0], changed_step[0]


def _changed(machine, change):
    stand, letter, following, written = change
    steps = list(machine.table[stand])
    steps[letter] = (following, written)
    table = list(machine.table)
    table[stand] = tuple(steps)
    return Machine(tuple(table))


def _all_changes(machine):
    changes = []
    for stand, steps in enumerate(machine.table):
        for letter, step in enumerate(steps):
            for other in _other_steps(machine, step):
                changes.append((stand, letter, *other))
    return changes


def _other_steps(machine, step):
    if step is None:
        return []
    steps = [(following, written) for following in range(len(machine)) for written in range(WRITTEN_LETTERS)]
    return [other for other in steps if other != step]


def _check_change(machine, value):
    # Only integers are looked for among the changes, as Python takes True and False for 1 and 0.
    if not isinstance(value, tuple) or not all([_is_integer(part) for part in value]):
        raise BadChange("no tuple of integers")
    if value not in _all_changes(machine):
        raise BadChange("no change of a step of the machine")


def _is_integer(value):
    return isinstance(value, int) and not isinstance(value, bool)
