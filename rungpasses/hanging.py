"""What relays hang on, and the order told."""

from rungpasses.bits import parts_of
from rungpasses.wiring import FIRST_RELAY_VARIABLE, drawing_relays, relay_bit, used_variables


def states_of_used(scheme):
    """The states that differ in used variables alone: others change nothing that draws."""
    return parts_of(sum([1 << variable for variable in used_variables(scheme)]))


def used_relays(scheme):
    return [variable - FIRST_RELAY_VARIABLE for variable in used_variables(scheme) if variable >= FIRST_RELAY_VARIABLE]


def hangs_on(scheme, relay, other):
    for state in states_of_used(scheme):
        changed = drawing_relays(scheme, state) ^ drawing_relays(scheme, state ^ relay_bit(other))
        if changed & relay_bit(relay) != 0:
            return True
    return False


def hung_on_by(scheme, relay):
    """The relays that this relay hangs on, rising."""
    return [other for other in used_relays(scheme) if hangs_on(scheme, relay, other)]


def are_told(relays, order):
    return all([relay in order for relay in relays])


def order_told(scheme):
    """The order told, or None if at some place no relay may be told."""
    left = list(range(len(scheme.coils)))
    needs = [hung_on_by(scheme, relay) for relay in left]
    order = []
    while len(left) > 0:
        free = [relay for relay in left if are_told(needs[relay], order)]
        if len(free) == 0:
            return None
        order.append(free[0])
        left.remove(free[0])
    return order
