"""The calls on one object, and their answers."""

from rungpasses.faults import first_fault
from rungpasses.lines import read_text
from rungpasses.passes import state_behind_pass, states_behind_rungs
from rungpasses.wiring import scheme_of

LONGEST_TEXT = 20000
GREATEST_STATE = 4294967295

# The one refusal that the calls here tell: an argument that is none.
WRONG_ARGUMENT = -1


class UnknownCall(ValueError):
    """A number that no call has."""


class Program:
    """What the calls work on: a scheme, the state it is in, the order of its rungs."""

    def __init__(self):
        self.scheme = scheme_of([])
        self.state = 0
        self.order = []


class Reader:
    """Goes through the list of calls, and leaves it as it is."""

    def __init__(self, calls):
        self.calls = calls
        self.place = 0

    def at_end(self):
        return self.place >= len(self.calls)

    def take_number(self):
        number = self.calls[self.place]
        self.place += 1
        return number

    def take_list(self):
        length = self.take_number()
        start = self.place
        self.place += length
        return self.calls[start:self.place]


def load(program, text):
    if len(text) > LONGEST_TEXT:
        return [WRONG_ARGUMENT]
    rows = read_text(text)
    fault = first_fault(rows)
    if fault == [0, 0]:
        program.scheme = scheme_of(rows)
        program.state = 0
        program.order = list(range(len(program.scheme.coils)))
    return [0] + fault


def set_state(program, x):
    if not 0 <= x <= GREATEST_STATE:
        return [WRONG_ARGUMENT]
    program.state = x & program.scheme.mask
    return [0, program.state]


def arrange(program, order):
    if sorted(order) != list(range(len(program.scheme.coils))):
        return [WRONG_ARGUMENT]
    program.order = order
    return [0]


def told(program):
    return [0, program.state] + program.order


def pass_once(program):
    program.state = state_behind_pass(program.scheme, program.state, program.order)
    return [0, program.state]


def rungs(program):
    return [0] + states_behind_rungs(program.scheme, program.state, program.order)


def answer_call(program, reader):
    call = reader.take_number()
    if call == 1:
        return load(program, reader.take_list())
    if call == 2:
        return set_state(program, reader.take_number())
    if call == 3:
        return arrange(program, reader.take_list())
    if call == 4:
        return told(program)
    if call == 5:
        return pass_once(program)
    if call == 6:
        return rungs(program)
    raise UnknownCall(f"no call has the number {call}")


def answers(calls):
    """For each call, in order, how many numbers are answered, then these."""
    program = Program()
    reader = Reader(calls)
    numbers = []
    while not reader.at_end():
        answer = answer_call(program, reader)
        numbers.append(len(answer))
        numbers.extend(answer)
    return numbers
