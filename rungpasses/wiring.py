"""A scheme: its relays' coils, its contacts, and what draws in a state."""

from rungpasses.bits import lowest_bits
from rungpasses.lines import CONTACT, GREATEST_NODE, INPUT, RELAY

RAIL = 0
FIRST_RELAY_VARIABLE = 16


class Contact:
    def __init__(self, variable, opener, nodes):
        self.variable = variable
        self.opener = opener
        self.nodes = nodes


class Scheme:
    """Inputs is how many there are; coils are the relays' nodes by number; masks have the bits of variables."""

    def __init__(self, inputs, coils, contacts):
        self.inputs = inputs
        self.coils = coils
        self.contacts = contacts
        self.relay_mask = lowest_bits(len(coils)) << FIRST_RELAY_VARIABLE
        self.mask = lowest_bits(inputs) | self.relay_mask
        # The same states come up again and again, so what draws in one is sought once.
        self.drawing = {}


def relay_bit(relay):
    return 1 << (FIRST_RELAY_VARIABLE + relay)


def rows_of_rank(rows, rank):
    return [row for row in rows if row.rank == rank]


def variables_by_name(rows):
    variables = {}
    for number, row in enumerate(rows_of_rank(rows, INPUT)):
        variables[row.name] = number
    for number, row in enumerate(rows_of_rank(rows, RELAY)):
        variables[row.name] = FIRST_RELAY_VARIABLE + number
    return variables


def scheme_of(rows):
    """The scheme of rows without fault. Lamps work nothing, so they are not kept."""
    variables = variables_by_name(rows)
    inputs = len(rows_of_rank(rows, INPUT))
    coils = [row.nodes[0] for row in rows_of_rank(rows, RELAY)]
    contacts = [Contact(variables[row.name], row.opener, row.nodes) for row in rows_of_rank(rows, CONTACT)]
    return Scheme(inputs, coils, contacts)


def used_variables(scheme):
    """The variables that a contact has, rising."""
    return sorted(set([contact.variable for contact in scheme.contacts]))


def lets_through(contact, state):
    return (state >> contact.variable) & 1 != contact.opener


def neighbours_of_nodes(scheme, state):
    neighbours = [[] for node in range(GREATEST_NODE + 1)]
    for contact in scheme.contacts:
        if lets_through(contact, state):
            lesser = contact.nodes[0]
            greater = contact.nodes[1]
            neighbours[lesser].append(greater)
            neighbours[greater].append(lesser)
    return neighbours


def live_nodes(scheme, state):
    """A dict of True by live node."""
    neighbours = neighbours_of_nodes(scheme, state)
    live = {RAIL: True}
    waiting = [RAIL]
    while len(waiting) > 0:
        node = waiting.pop()
        for neighbour in neighbours[node]:
            if neighbour not in live:
                live[neighbour] = True
                waiting.append(neighbour)
    return live


def drawing_relays(scheme, state):
    """The bits of the relays that draw."""
    if state not in scheme.drawing:
        live = live_nodes(scheme, state)
        scheme.drawing[state] = sum([relay_bit(relay) for relay, coil in enumerate(scheme.coils) if coil in live])
    return scheme.drawing[state]
