"""The first fault of a text that is no scheme's."""

from rungpasses.lines import CONTACT, INPUT, RELAY

# How many inputs, relays, lamps and contacts a scheme may have.
MOST_OF_RANK = (16, 12, 16, 256)


def shapeless_line(rows):
    for line, row in enumerate(rows):
        if row is None:
            return line
    return None


def late_line(rows):
    latest = INPUT
    for line, row in enumerate(rows):
        if row.rank < latest:
            return line
        latest = row.rank
    return None


def surplus_line(rows):
    counts = [0, 0, 0, 0]
    for line, row in enumerate(rows):
        counts[row.rank] += 1
        if counts[row.rank] > MOST_OF_RANK[row.rank]:
            return line
    return None


def repeated_line(rows):
    given = {}
    for line, row in enumerate(rows):
        if row.rank != CONTACT:
            if row.name in given:
                return line
            given[row.name] = True
    return None


def unknown_line(rows):
    known = {}
    for line, row in enumerate(rows):
        if row.rank in (INPUT, RELAY):
            known[row.name] = True
        if row.rank == CONTACT and row.name not in known:
            return line
    return None


# By rising kind. Each one but the first may trust that the kinds ahead of it were not found.
FINDERS = (shapeless_line, late_line, surplus_line, repeated_line, unknown_line)


def first_fault(rows):
    """The first fault's kind and line; 0 and 0 if the rows are a scheme's."""
    for kind, finder in enumerate(FINDERS, start=1):
        line = finder(rows)
        if line is not None:
            return [kind, line]
    return [0, 0]
