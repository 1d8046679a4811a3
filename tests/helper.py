"""Writes lists of calls and reads the answers, for all tests."""

from rungpasses.scheme import answers

TOLD = [4]
PASS = [5]
RUNGS = [6]


def load_bytes(text):
    return [1, len(text)] + list(text)


def load(*lines):
    """A load of these lines, each with byte 10 behind it."""
    return load_bytes("".join(line + "\n" for line in lines).encode())


def put(x):
    return [2, x]


def arrange(*order):
    return [3, len(order)] + list(order)


def in_rows(numbers):
    rows = []
    place = 0
    while place < len(numbers):
        count = numbers[place]
        row = numbers[place + 1:place + 1 + count]
        if len(row) != count:
            raise ValueError("an answer is shorter than the count before it")
        rows.append(row)
        place += 1 + count
    return rows


def ask(*calls):
    """The answer of each of the calls on one new object."""
    return in_rows(answers([number for call in calls for number in call]))


def fault(*lines):
    """Kind and line that a load of these lines tells."""
    return told_fault(ask(load(*lines))[0])


def fault_of_bytes(text):
    return told_fault(ask(load_bytes(text))[0])


def told_fault(answer):
    if len(answer) != 3 or answer[0] != 0:
        raise ValueError("load answers 0, a kind, a line, not " + repr(answer))
    return tuple(answer[1:])


def relay(*numbers):
    """The state in which just these relays are on."""
    return sum(1 << (16 + number) for number in numbers)
