"""The lines of a scheme's text, each read by itself."""

LETTERS = "abcdefghijklmnopqrstuvwxyz"
DIGITS = "0123456789"

# A sign of no line's shape stands for every byte that no scheme's text has.
STRANGE = "?"

# The sorts of lines, in the order in which a text has them.
INPUT = 0
RELAY = 1
LAMP = 2
CONTACT = 3

LONGEST_NAME = 12
GREATEST_NODE = 63
GREATEST_TICKS = 65535
MOST_DIGITS = 5


class Row:
    """A line of good shape: its sort as a rank, its name, its nodes, and 1 as opener if it is one's line."""

    def __init__(self, rank, name, nodes, opener):
        self.rank = rank
        self.name = name
        self.nodes = nodes
        self.opener = opener


def sign_of(byte):
    if 97 <= byte <= 122:
        return LETTERS[byte - 97]
    if 48 <= byte <= 57:
        return DIGITS[byte - 48]
    if byte == 32:
        return " "
    if byte == 10:
        return "\n"
    return STRANGE


def is_name(part):
    if not 1 <= len(part) <= LONGEST_NAME or part[0] not in LETTERS:
        return False
    return all([sign in LETTERS or sign in DIGITS for sign in part])


def is_number(part, least, greatest):
    # Python refuses to read very long numbers, so the length is asked ahead.
    if not part.isdigit() or len(part) > MOST_DIGITS:
        return False
    if len(part) > 1 and part[0] == "0":
        return False
    return least <= int(part) <= greatest


def is_node(part):
    return is_number(part, 0, GREATEST_NODE)


def are_delays(parts):
    words = parts[0::2]
    ticks = parts[1::2]
    if words not in ([], ["up"], ["down"], ["up", "down"]) or len(ticks) != len(words):
        return False
    return all([is_number(part, 1, GREATEST_TICKS) for part in ticks])


def read_input(parts):
    if len(parts) != 2 or not is_name(parts[1]):
        return None
    return Row(INPUT, parts[1], [], 0)


def read_coil(parts, rank):
    if len(parts) != 4 or not is_name(parts[1]) or parts[2] != "at" or not is_node(parts[3]):
        return None
    return Row(rank, parts[1], [int(parts[3])], 0)


def read_relay(parts):
    # Passes take no time, so the delays have to be of good shape, but are not kept.
    if not are_delays(parts[4:]):
        return None
    return read_coil(parts[:4], RELAY)


def read_contact(parts, opener):
    if len(parts) != 4 or not is_name(parts[1]) or not is_node(parts[2]) or not is_node(parts[3]):
        return None
    nodes = [int(parts[2]), int(parts[3])]
    if nodes[0] >= nodes[1]:
        return None
    return Row(CONTACT, parts[1], nodes, opener)


def read_line(line):
    """The line's row, or None if it is of no such shape."""
    parts = line.split(" ")
    if parts[0] == "in":
        return read_input(parts)
    if parts[0] == "relay":
        return read_relay(parts)
    if parts[0] == "lamp":
        return read_coil(parts, LAMP)
    if parts[0] == "open":
        return read_contact(parts, 1)
    if parts[0] == "close":
        return read_contact(parts, 0)
    return None


def read_text(text):
    """A row, or None, for each line of the text's bytes."""
    lines = "".join([sign_of(byte) for byte in text]).split("\n")
    rows = [read_line(line) for line in lines[:-1]]
    # What no byte 10 ends is a line of no shape, however it reads.
    if lines[-1] != "":
        rows.append(None)
    return rows
