"""Cases: the steps by which states can be, and the one that is told for what is wanted."""

from relaycabinets.states import live_nodes, moves_from, operations_from


class Wanted:
    """Variables on and off, as bits, and lists of nodes live and dead: all at once."""

    def __init__(self, on, off, live, dead):
        self.on = on
        self.off = off
        self.live = live
        self.dead = dead


def is_so(scheme, state, wanted):
    """Tell whether in a state that can be there is all that is wanted."""
    # A state that can be has no bit of what is no variable of the scheme: such bits are off here of themselves.
    if state & wanted.on != wanted.on or state & wanted.off != 0:
        return False
    live = live_nodes(scheme, state)
    for node in wanted.live:
        if node not in live:
            return False
    for node in wanted.dead:
        if node in live:
            return False
    return True


def told_cases(scheme):
    """Return for each state that can be the case told for it, the cases in their order.

    A case is [operations, steps, state, state, ..]: of two such lists the lesser, as Python compares
    lists, is the one that is told rather, and stays so when both go on by the same step.
    """
    told = {}
    waiting = {0: [0, 0]}
    while waiting:
        state = min(list(waiting), key=lambda other: waiting[other])
        case = waiting.pop(state)
        told[state] = case
        for later in cases_behind(scheme, state, case):
            offer_case(waiting, told, later)
    return told


def cases_behind(scheme, state, case):
    """Return the cases that go on by one step from a case that led to a state."""
    operations = case[0]
    steps = case[1] + 1
    states = case[2:]
    moved = [[operations, steps] + states + [other] for other in moves_from(scheme, state)]
    operated = [[operations + 1, steps] + states + [other] for other in operations_from(scheme, state)]
    return moved + operated


def offer_case(waiting, told, case):
    """Keep a case as the best one so far for the state to which it leads, if it is."""
    state = case[-1]
    if state not in told and (state not in waiting or case < waiting[state]):
        waiting[state] = case


def states_that_can_be(scheme):
    """Return the states that can be, rising."""
    return sorted(told_cases(scheme))


def case_for(scheme, wanted):
    """Return the case told for what is wanted, None if it never is."""
    cases = told_cases(scheme)
    for state in cases:
        if is_so(scheme, state, wanted):
            return cases[state]
    return None


def count_of(scheme, wanted):
    """Return in how many of the states that can be there is all that is wanted."""
    return len([state for state in states_that_can_be(scheme) if is_so(scheme, state, wanted)])
