"""Relays that move: what may come of states, and which are sure."""

from rungpasses.bits import parts_of
from rungpasses.wiring import drawing_relays

# Why a state is not sure; 0 if it is.
SURE = 0
RING = 1
SEVERAL_RESTS = 2


def states_behind_moves(scheme, state):
    """The states that one move leads to; none if the state is a rest."""
    unsettled = (drawing_relays(scheme, state) ^ state) & scheme.relay_mask
    return [state ^ turned for turned in parts_of(unsettled) if turned != 0]


def are_known(states, rests):
    return all([state in rests for state in states])


def rests_through(state, behind, rests):
    """The rests that may come of the state, told by those of the states behind its moves."""
    if len(behind) == 0:
        return {state: True}
    found = {}
    for other in behind:
        found.update(rests[other])
    return found


def rests_by_state(scheme):
    """For each state of which no state on a ring may come: the rests that may, as a dict of True."""
    waiting = parts_of(scheme.mask)
    behind = {}
    for state in waiting:
        behind[state] = states_behind_moves(scheme, state)
    rests = {}
    while True:
        # What is left in the end leads to more that is left, on and on, so to a ring: states are not without end.
        ready = [state for state in waiting if are_known(behind[state], rests)]
        if len(ready) == 0:
            return rests
        for state in ready:
            rests[state] = rests_through(state, behind[state], rests)
        waiting = [state for state in waiting if state not in rests]


def why_not_sure(state, rests):
    if state not in rests:
        return RING
    return SEVERAL_RESTS if len(rests[state]) > 1 else SURE


def first_unsure(scheme):
    """The least state that is not sure, and why; None if all are sure."""
    rests = rests_by_state(scheme)
    for state in parts_of(scheme.mask):
        why = why_not_sure(state, rests)
        if why != SURE:
            return [state, why]
    return None
