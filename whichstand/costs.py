"""The cheapest rows that reach an aim."""

from heapq import heappop, heappush

from whichstand.checks import ROW_AIMS, check_aim, check_stands, is_below
from whichstand.errors import BadCosts
from whichstand.lots import is_done, lead_lot

MOST_COST = 99


def cheapest(machine, stands, aim, costs):
    """Return the least cost of a row that reaches an aim, and the row, None if there is none."""
    check_stands(machine, stands)
    check_aim(aim, ROW_AIMS)
    _check_costs(machine, costs)
    # Rows wait with the lots to which they lead, cheaper ones first, then shorter ones, then lesser ones,
    # so the first row that is taken out for a lot is the one that is asked for, and no other is gone on with.
    waiting = [(0, 0, (), (stands,))]
    settled = {}
    while waiting:
        cost, length, row, lot = heappop(waiting)
        if is_done(lot):
            return cost, row
        if lot in settled:
            continue
        settled[lot] = True
        for letter in range(machine.letters):
            reached = lead_lot(machine, lot, letter, aim)
            if reached is not None and reached not in settled:
                heappush(waiting, (cost + costs[letter], length + 1, row + (letter,), reached))
    return None


def _check_costs(machine, value):
    if not isinstance(value, tuple) or len(value) != machine.letters:
        raise BadCosts("no tuple of a cost for each letter")
    if not all([is_below(cost, MOST_COST + 1) and cost > 0 for cost in value]):
        raise BadCosts("a cost is no integer from 1 to 99")
