"""What is live in a state, and where steps lead from it."""

from relaycabinets.schemes import FIRST_RELAY


def is_on(state, variable):
    """Tell whether a variable is on."""
    return state >> variable & 1 == 1


def joined_nodes(scheme, state):
    """Return for each node that contacts join to others now, which ones."""
    joined = {}
    for low, high, closer, variable in scheme.contacts:
        if is_on(state, variable) == closer:
            joined.setdefault(low, []).append(high)
            joined.setdefault(high, []).append(low)
    return joined


def live_nodes(scheme, state):
    """Return the nodes that are live, as the keys of a dict."""
    joined = joined_nodes(scheme, state)
    live = {0: True}
    waiting = [0]
    while waiting:
        joint = waiting.pop()
        for node in joined.get(joint, []):
            if node not in live:
                live[node] = True
                waiting.append(node)
    return live


def unsettled_relays(scheme, state):
    """Return the bits of the relays that are unsettled."""
    live = live_nodes(scheme, state)
    unsettled = 0
    for variable, node in enumerate(scheme.relays, start=FIRST_RELAY):
        if is_on(state, variable) != (node in live):
            unsettled = unsettled | (1 << variable)
    return unsettled


def moves_from(scheme, state):
    """Return the states to which one move leads."""
    unsettled = unsettled_relays(scheme, state)
    states = []
    chosen = unsettled
    while chosen > 0:
        states.append(state ^ chosen)
        # The next lesser number that has none but unsettled relays' bits: so each choice of them comes once.
        chosen = (chosen - 1) & unsettled
    return states


def turned(state, number):
    """Return the state to which it leads to turn the input of this number."""
    # Input i is variable i.
    return state ^ (1 << number)


def operations_from(scheme, state):
    """Return the states to which one operation leads."""
    return [turned(state, number) for number in range(scheme.inputs)]


def lamps_that_draw(scheme, state):
    """Return for each lamp, in order, whether it draws."""
    live = live_nodes(scheme, state)
    return [node in live for node in scheme.lamps]
