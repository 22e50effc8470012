"""Blocks and lots: in which stands a machine can be, by what was written."""

from whichstand.checks import is_ascending, is_block


def is_lot(machine, value):
    """Tell whether any value is an ascending tuple of unlike blocks, one at least."""
    if not isinstance(value, tuple) or len(value) == 0:
        return False
    # Only what is known to be blocks is compared.
    return all([is_block(machine, block) for block in value]) and is_ascending(value)


def is_done(lot):
    """Tell whether all blocks of a lot have just one stand."""
    return all([len(block) == 1 for block in lot])


def lead_block(machine, block, letter, aim):
    """Return the ascending list of the tuples (written, block) to which a letter leads, None if nowhere."""
    parts = {}
    for stand in block:
        step = machine.table[stand][letter]
        if step is None:
            return None
        following, written = step
        # Nothing that is written matters on the way home, so nothing is split there.
        part = parts.setdefault(0 if aim == "home" else written, [])
        if following not in part:
            part.append(following)
        elif aim == "first":
            # Two stands that come together can never be told apart again.
            return None
    return [(written, tuple(sorted(parts[written]))) for written in sorted(parts)]


def lead_lot(machine, lot, letter, aim):
    """Return the lot to which a letter leads from a lot, None if it leads nowhere."""
    blocks = {}
    for block in lot:
        parts = lead_block(machine, block, letter, aim)
        if parts is None:
            return None
        for _, part in parts:
            blocks[part] = True
    return tuple(sorted(blocks))
