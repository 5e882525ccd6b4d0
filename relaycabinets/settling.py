"""Where states settle, at once and behind operations one after another."""

from relaycabinets.states import moves_from, turned


def moves_that_may_come(scheme, state):
    """Return for each state that may come of this one the states to which one move leads from it."""
    moves = {}
    waiting = [state]
    while waiting:
        reached = waiting.pop()
        if reached not in moves:
            moves[reached] = moves_from(scheme, reached)
            waiting.extend(moves[reached])
    return moves


def leads_to(later, left):
    """Tell whether one of the later states is among those that are left."""
    return any([state in left for state in later])


def has_ring(moves):
    """Tell whether a ring is among these states, of which each move leads to another of them."""
    left = dict(moves)
    ended = [state for state in left if not leads_to(left[state], left)]
    while ended:
        for state in ended:
            left.pop(state)
        ended = [state for state in left if not leads_to(left[state], left)]
    # From each state that is left a move leads to another one that is left, and there is no end of moves:
    # since there is an end of states, some of them come again.
    return len(left) > 0


def found_rest(scheme, state):
    """Return the rest where a state settles, None if the state is not sure."""
    moves = moves_that_may_come(scheme, state)
    rests = [reached for reached in moves if moves[reached] == []]
    if len(rests) != 1 or has_ring(moves):
        return None
    return rests[0]


class Rests:
    """The rests where a scheme's states settle."""

    def __init__(self, scheme):
        self.scheme = scheme
        self.known = {}

    def rest_of(self, state):
        """Return the rest where a state settles, None if the state is not sure."""
        # Operations lead to the same states again and again, and to go through what may come takes long.
        if state not in self.known:
            self.known[state] = found_rest(self.scheme, state)
        return self.known[state]


def rests_behind(scheme, inputs):
    """Return the rest of state 0 and the one behind each of these operations, None if some state is not sure."""
    rests = Rests(scheme)
    found = [rests.rest_of(0)]
    for number in inputs:
        if found[-1] is not None:
            found.append(rests.rest_of(turned(found[-1], number)))
    if found[-1] is None:
        return None
    return found
