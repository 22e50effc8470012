"""Rows for which one stand alone writes as it does."""

from whichstand.checks import LONGEST_ROW, check_stands, is_below
from whichstand.errors import BadStand
from whichstand.searches import search


def own_row(machine, stands, stand):
    """Return the least of the shortest rows that tell one of some stands from all others, None if there is none."""
    check_stands(machine, stands)
    # True and False are looked for first, as Python takes them for 1 and 0.
    if not is_below(stand, len(machine)) or stand not in stands:
        raise BadStand("none of the stands")
    return _find_own_row(machine, stands, stand)


def own_rows(machine, stands):
    """Return the list of the own rows of some stands, None for those that have none."""
    check_stands(machine, stands)
    return [_find_own_row(machine, stands, stand) for stand in stands]


def _find_own_row(machine, stands, stand):
    # A state is where the stand has led, where the others have that write as it does, and where the rest has.
    start = (stand, tuple([other for other in stands if other != stand]), ())
    row, _ = search(
        start,
        machine.letters,
        lambda state, letter: _lead(machine, state, letter),
        lambda state: len(state[1]) == 0,
    )
    # No more letters make a row, and where the least one has more there is no shorter one.
    if row is None or len(row) > LONGEST_ROW:
        return None
    return row


def _lead(machine, state, letter):
    at, close, told = state
    step = machine.table[at][letter]
    close_steps = [machine.table[other][letter] for other in close]
    told_steps = [machine.table[other][letter] for other in told]
    if step is None or None in close_steps or None in told_steps:
        return None
    if step in close_steps:
        # Two stands that write alike and come together can never be told apart again.
        return None
    still_close = sorted({following for following, written in close_steps if written == step[1]})
    now_told = [other for other in close_steps if other[1] != step[1]]
    return step[0], tuple(still_close), tuple(sorted({following for following, _ in now_told + told_steps}))
