"""A scheme: its relays' coils, its contacts, and what draws in a state."""

from rungpasses.lines import CONTACT, GREATEST_NODE, INPUT, RELAY

RAIL = 0
FIRST_RELAY_VARIABLE = 16


class Contact:
    def __init__(self, variable, opener, nodes):
        self.variable = variable
        self.opener = opener
        self.nodes = nodes


class Scheme:
    """Coils are the relays' nodes by number; mask has the bits of all variables."""

    def __init__(self, coils, contacts, mask):
        self.coils = coils
        self.contacts = contacts
        self.mask = mask


def relay_bit(relay):
    return 1 << (FIRST_RELAY_VARIABLE + relay)


def rows_of_rank(rows, rank):
    return [row for row in rows if row.rank == rank]


def variables_by_name(rows):
    variables = {}
    for number, row in enumerate(rows_of_rank(rows, INPUT)):
        variables[row.name] = number
    for number, row in enumerate(rows_of_rank(rows, RELAY)):
        variables[row.name] = FIRST_RELAY_VARIABLE + number
    return variables


def scheme_of(rows):
    """The scheme of rows without fault. Lamps work nothing, so they are not kept."""
    variables = variables_by_name(rows)
    coils = [row.nodes[0] for row in rows_of_rank(rows, RELAY)]
    contacts = [Contact(variables[row.name], row.opener, row.nodes) for row in rows_of_rank(rows, CONTACT)]
    mask = sum([1 << variable for variable in variables.values()])
    return Scheme(coils, contacts, mask)


def lets_through(contact, state):
    return (state >> contact.variable) & 1 != contact.opener


def neighbours_of_nodes(scheme, state):
    neighbours = [[] for node in range(GREATEST_NODE + 1)]
    for contact in scheme.contacts:
        if lets_through(contact, state):
            lesser = contact.nodes[0]
            greater = contact.nodes[1]
            neighbours[lesser].append(greater)
            neighbours[greater].append(lesser)
    return neighbours


def live_nodes(scheme, state):
    """A dict of True by live node."""
    neighbours = neighbours_of_nodes(scheme, state)
    live = {RAIL: True}
    waiting = [RAIL]
    while len(waiting) > 0:
        node = waiting.pop()
        for neighbour in neighbours[node]:
            if neighbour not in live:
                live[neighbour] = True
                waiting.append(neighbour)
    return live


def draws(scheme, state, relay):
    return scheme.coils[relay] in live_nodes(scheme, state)
