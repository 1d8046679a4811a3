"""Passes: the relays' rungs, one after another."""

from rungpasses.wiring import draws, relay_bit


def state_behind_rung(scheme, state, relay):
    if draws(scheme, state, relay):
        return state | relay_bit(relay)
    return state & ~relay_bit(relay)


def states_behind_rungs(scheme, state, order):
    """The states behind each rung of one pass, in order."""
    states = []
    now = state
    for relay in order:
        now = state_behind_rung(scheme, now, relay)
        states.append(now)
    return states


def state_behind_pass(scheme, state, order):
    states = states_behind_rungs(scheme, state, order)
    # Without relays a pass has no rung, and the state stays.
    return states[-1] if len(states) > 0 else state
