"""Two cabinets compared: whether they show the same lamps, whatever is done."""

from relaycabinets.settling import Rests
from relaycabinets.states import lamps_that_draw, turned

ALIKE_SO_FAR = 0
OTHER_LAMPS = 1
FIRST_NOT_SURE = 2
SECOND_NOT_SURE = 3


def why_different(first, second, pair):
    """Return why two cabinets differ that settle in this pair of rests; a rest is None if a state is not sure."""
    if pair[0] is None:
        return FIRST_NOT_SURE
    if pair[1] is None:
        return SECOND_NOT_SURE
    if lamps_that_draw(first, pair[0]) != lamps_that_draw(second, pair[1]):
        return OTHER_LAMPS
    return ALIKE_SO_FAR


def rows_behind(inputs, pair, row):
    """Return (state, state, row) of each row that goes on by one operation, the lesser inputs first."""
    rows = []
    for number in range(inputs):
        rows.append((turned(pair[0], number), turned(pair[1], number), row + [number]))
    return rows


def difference_told(first, second):
    """Return [why, input, input, ..] of the difference told, None if there is none.

    Shorter rows wait ahead of longer ones, and of one length those with the lesser input where they first
    differ. So the first row behind which the cabinets differ is the one that is told; and of rows that
    lead to the same rests the first alone goes on, since what the others lead to comes later.
    """
    first_rests = Rests(first)
    second_rests = Rests(second)
    gone_on = {}
    waiting = [(0, 0, [])]
    while waiting:
        state, other, row = waiting.pop(0)
        pair = (first_rests.rest_of(state), second_rests.rest_of(other))
        if pair not in gone_on:
            why = why_different(first, second, pair)
            if why != ALIKE_SO_FAR:
                return [why] + row
            gone_on[pair] = True
            waiting.extend(rows_behind(first.inputs, pair, row))
    return None
