"""Passes: the relays' rungs, one after another, and states that are scanned."""

from rungpasses.wiring import drawing_relays, relay_bit


class Scan:
    """The states that passes lead through, each once, in order; back is the place of the one behind the last."""

    def __init__(self, states, back):
        self.states = states
        self.back = back

    def comes_round(self):
        # A pass that leads back to the very state it began from has changed nothing.
        return self.back != len(self.states) - 1


def state_behind_rung(scheme, state, relay):
    bit = relay_bit(relay)
    return (state & ~bit) | (drawing_relays(scheme, state) & bit)


def states_behind_rungs(scheme, state, order):
    """The states behind each rung of one pass, in order."""
    states = []
    now = state
    for relay in order:
        now = state_behind_rung(scheme, now, relay)
        states.append(now)
    return states


def state_behind_pass(scheme, state, order):
    states = states_behind_rungs(scheme, state, order)
    # Without relays a pass has no rung, and the state stays.
    return states[-1] if len(states) > 0 else state


def scan_of(scheme, state, order):
    places = {}
    now = state
    while now not in places:
        places[now] = len(places)
        now = state_behind_pass(scheme, now, order)
    return Scan(list(places), places[now])


def all_orders(many):
    """Each order of so many relays."""
    orders = [[]]
    for relay in range(many):
        longer = []
        for order in orders:
            longer.extend([order[:place] + [relay] + order[place:] for place in range(relay + 1)])
        orders = longer
    return orders


def scans_of_all_orders(scheme, state):
    return [scan_of(scheme, state, order) for order in all_orders(len(scheme.coils))]
