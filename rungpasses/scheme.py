"""The calls on one object, and their answers."""

from rungpasses.faults import first_fault
from rungpasses.hanging import hung_on_by, order_told
from rungpasses.lines import read_text
from rungpasses.moves import first_unsure
from rungpasses.passes import scan_of, scans_of_all_orders, state_behind_pass, states_behind_rungs
from rungpasses.wiring import scheme_of, used_variables

LONGEST_TEXT = 20000
GREATEST_STATE = 4294967295

# The greatest schemes that calls answer.
MOST_RELAYS_TO_SCAN = 8
MOST_USED_TO_HANG = 6
MOST_RELAYS_TO_MOVE = 5
MOST_VARIABLES_TO_MOVE = 8
MOST_RELAYS_TO_ORDER = 5

# Refusals: an argument that is none, a scheme that is too great, an answer that there is not.
WRONG_ARGUMENT = -1
TOO_GREAT = -9
NO_ANSWER = -5


class UnknownCall(ValueError):
    """A number that no call has."""


class Program:
    """What the calls work on: a scheme, the state it is in, the order of its rungs."""

    def __init__(self):
        self.scheme = scheme_of([])
        self.state = 0
        self.order = []


class Reader:
    """Goes through the list of calls, and leaves it as it is."""

    def __init__(self, calls):
        self.calls = calls
        self.place = 0

    def at_end(self):
        return self.place >= len(self.calls)

    def take_number(self):
        number = self.calls[self.place]
        self.place += 1
        return number

    def take_list(self):
        length = self.take_number()
        start = self.place
        self.place += length
        return self.calls[start:self.place]


def load(program, text):
    if len(text) > LONGEST_TEXT:
        return [WRONG_ARGUMENT]
    rows = read_text(text)
    fault = first_fault(rows)
    if fault == [0, 0]:
        program.scheme = scheme_of(rows)
        program.state = 0
        program.order = list(range(len(program.scheme.coils)))
    return [0] + fault


def set_state(program, x):
    if not 0 <= x <= GREATEST_STATE:
        return [WRONG_ARGUMENT]
    program.state = x & program.scheme.mask
    return [0, program.state]


def arrange(program, order):
    if sorted(order) != list(range(len(program.scheme.coils))):
        return [WRONG_ARGUMENT]
    program.order = order
    return [0]


def told(program):
    return [0, program.state] + program.order


def pass_once(program):
    program.state = state_behind_pass(program.scheme, program.state, program.order)
    return [0, program.state]


def rungs(program):
    return [0] + states_behind_rungs(program.scheme, program.state, program.order)


def until(program):
    if len(program.scheme.coils) > MOST_RELAYS_TO_SCAN:
        return [TOO_GREAT]
    scan = scan_of(program.scheme, program.state, program.order)
    if scan.comes_round():
        return [NO_ANSWER]
    program.state = scan.states[-1]
    return [0, program.state, len(scan.states) - 1]


def tell_round(program):
    if len(program.scheme.coils) > MOST_RELAYS_TO_SCAN:
        return [TOO_GREAT]
    scan = scan_of(program.scheme, program.state, program.order)
    if not scan.comes_round():
        return [NO_ANSWER]
    return [0, scan.back] + scan.states[scan.back:]


def too_many_used(scheme):
    return len(used_variables(scheme)) > MOST_USED_TO_HANG


def hang(program, relay):
    if not 0 <= relay < len(program.scheme.coils):
        return [WRONG_ARGUMENT]
    if too_many_used(program.scheme):
        return [TOO_GREAT]
    return [0] + hung_on_by(program.scheme, relay)


def tell_order(program):
    if too_many_used(program.scheme):
        return [TOO_GREAT]
    order = order_told(program.scheme)
    if order is None:
        return [NO_ANSWER]
    return [0] + order


def sure(program):
    relays = len(program.scheme.coils)
    if relays > MOST_RELAYS_TO_MOVE or program.scheme.inputs + relays > MOST_VARIABLES_TO_MOVE:
        return [TOO_GREAT]
    unsure = first_unsure(program.scheme)
    if unsure is None:
        return [0, 1]
    return [0, 0] + unsure


def some(program):
    if len(program.scheme.coils) > MOST_RELAYS_TO_ORDER:
        return [TOO_GREAT]
    scans = scans_of_all_orders(program.scheme, program.state)
    rests = [scan.states[-1] for scan in scans if not scan.comes_round()]
    round_too = 1 if len(rests) < len(scans) else 0
    return [0, round_too] + sorted(set(rests))


def answer_call(program, reader):
    call = reader.take_number()
    if call == 1:
        return load(program, reader.take_list())
    if call == 2:
        return set_state(program, reader.take_number())
    if call == 3:
        return arrange(program, reader.take_list())
    if call == 4:
        return told(program)
    if call == 5:
        return pass_once(program)
    if call == 6:
        return rungs(program)
    if call == 7:
        return until(program)
    if call == 8:
        return tell_round(program)
    if call == 9:
        return hang(program, reader.take_number())
    if call == 10:
        return tell_order(program)
    if call == 11:
        return sure(program)
    if call == 12:
        return some(program)
    raise UnknownCall(f"no call has the number {call}")


def answers(calls):
    """For each call, in order, how many numbers are answered, then these."""
    program = Program()
    reader = Reader(calls)
    numbers = []
    while not reader.at_end():
        answer = answer_call(program, reader)
        numbers.append(len(answer))
        numbers.extend(answer)
    return numbers
