"""Rows that tell two stands apart."""

from whichstand.checks import check_stand


def told_apart(machine, one, other):
    """Return the least of the shortest rows that two stands can read and write unlike, or None."""
    check_stand(machine, one)
    check_stand(machine, other)
    return _least_row_apart(machine, one, other)


def alike(machine):
    """Return the ascending list of the pairs of stands that no row tells apart."""
    stands = len(machine)
    pairs = [(one, other) for one in range(stands) for other in range(one + 1, stands)]
    return [(one, other) for one, other in pairs if _least_row_apart(machine, one, other) is None]


def _least_row_apart(machine, one, other):
    # Pairs wait in the order of their rows, shorter ones first and then lesser ones,
    # so the first row that tells apart is the one that is asked for.
    rows = {(one, other): ()}
    waiting = [(one, other)]
    while waiting:
        left, right = waiting.pop(0)
        for letter in range(machine.letters):
            left_step = machine.table[left][letter]
            right_step = machine.table[right][letter]
            if left_step is None or right_step is None:
                continue
            row = rows[(left, right)] + (letter,)
            if left_step[1] != right_step[1]:
                return row
            reached = (left_step[0], right_step[0])
            if reached not in rows:
                rows[reached] = row
                waiting.append(reached)
    return None
