"""Writes lists of calls and reads the answers, for all tests; and reckons plainly what they should be."""

import itertools

from rungpasses.scheme import answers

TOLD = [4]
PASS = [5]
RUNGS = [6]
UNTIL = [7]
ROUND = [8]
ORDER = [10]
SURE = [11]
SOME = [12]


def load_bytes(text):
    return [1, len(text)] + list(text)


def load(*lines):
    """A load of these lines, each with byte 10 behind it."""
    return load_bytes("".join(line + "\n" for line in lines).encode())


def put(x):
    return [2, x]


def arrange(*order):
    return [3, len(order)] + list(order)


def hang(j):
    return [9, j]


def in_rows(numbers):
    rows = []
    place = 0
    while place < len(numbers):
        count = numbers[place]
        row = numbers[place + 1:place + 1 + count]
        if len(row) != count:
            raise ValueError("an answer is shorter than the count before it")
        rows.append(row)
        place += 1 + count
    return rows


def ask(*calls):
    """The answer of each of the calls on one new object."""
    return in_rows(answers([number for call in calls for number in call]))


def fault(*lines):
    """Kind and line that a load of these lines tells."""
    return told_fault(ask(load(*lines))[0])


def fault_of_bytes(text):
    return told_fault(ask(load_bytes(text))[0])


def told_fault(answer):
    if len(answer) != 3 or answer[0] != 0:
        raise ValueError("load answers 0, a kind, a line, not " + repr(answer))
    return tuple(answer[1:])


def relay(*numbers):
    """The state in which just these relays are on."""
    return sum(1 << (16 + number) for number in numbers)


def inputs(many):
    return ["in i" + str(k) for k in range(many)]


def relays(*nodes):
    return ["relay r" + str(k) + " at " + str(node) for k, node in enumerate(nodes)]


def contact(kind, name, *nodes):
    return " ".join([kind, name, *[str(node) for node in sorted(nodes)]])


def counter(stops=False):
    """Eight relays that count: a pass from 7 to 0 adds 1. One that stops stays as it is once relay 7 is on."""
    carry = [24 if stops else 0] + list(range(25, 32))
    kept = range(8, 16)
    coils = range(16, 24)
    lines = relays(*coils)
    lines += [contact("open", "r7", 0, carry[0])] if stops else []
    for k in range(8):
        # Its node carry is live while all relays below are on: then it turns; else it is kept.
        lines += [contact("close", "r" + str(k - 1), carry[k - 1], carry[k])] if k > 0 else []
        lines += [contact("open", "r" + str(low), 0, kept[k]) for low in range(k)]
        lines += [contact("close", "r7", 0, kept[k])] if stops else []
        lines += [contact("close", "r" + str(k), kept[k], coils[k])]
        lines += [contact("open", "r" + str(k), carry[k], coils[k])]
    return lines


class Made:
    """A made-up scheme, and what the document says of it, reckoned by sets: a state is the set of variables on."""

    def __init__(self, many, coils, contacts):
        """Contacts are: 1 if an opener, else 0; a variable; two nodes."""
        self.many = many
        self.coils = coils
        self.contacts = contacts
        self.numbers = range(len(coils))
        self.variables = [*range(many), *[16 + number for number in self.numbers]]

    def lines(self):
        names = {v: "i" + str(v) if v < 16 else "r" + str(v - 16) for v in self.variables}
        kinds = ("close", "open")
        contacts = [" ".join([kinds[opener], names[v], str(low), str(high)]) for opener, v, low, high in self.contacts]
        return inputs(self.many) + relays(*self.coils) + contacts

    def load(self):
        return load(*self.lines())

    def states(self):
        """All states, rising."""
        chosen = itertools.product((False, True), repeat=len(self.variables))
        sets = [frozenset(itertools.compress(self.variables, reversed(row))) for row in chosen]
        return sorted(sets, key=number_of)

    def draws(self, on, number):
        live = {0}
        while True:
            closed = [{low, high} for opener, v, low, high in self.contacts if (v in on) != bool(opener)]
            more = live.union(*[pair for pair in closed if pair & live])
            if more == live:
                return self.coils[number] in live
            live = more

    def passed(self, on, order):
        for number in order:
            on = on | {16 + number} if self.draws(on, number) else on - {16 + number}
        return frozenset(on)

    def scanned(self, on, order):
        """The states through which passes go till one comes again, that one at the end too."""
        states = [frozenset(on)]
        while len(set(states)) == len(states):
            states.append(self.passed(states[-1], order))
        return states

    def unsettled(self, on):
        return [16 + number for number in self.numbers if self.draws(on, number) != (16 + number in on)]

    def moved(self, on, most=12):
        """The states that a move, of at most so many relays, leads to."""
        loose = self.unsettled(on)
        return {on ^ set(turned) for size in range(1, most + 1) for turned in itertools.combinations(loose, size)}

    def may_come(self, most=12):
        """By state, all that may come of it, itself too."""
        moved = {on: self.moved(on, most) for on in self.states()}
        come = {on: {on} for on in moved}
        while True:
            more = {on: come[on].union(*[come[other] for other in moved[on]]) for on in moved}
            if more == come:
                return come
            come = more

    def unsure(self, most=12):
        """The states that are not sure, and why, by number."""
        come = self.may_come(most)
        ringed = {on for on in come if any(on in come[other] for other in self.moved(on, most))}
        why = {}
        for on in come:
            if come[on] & ringed:
                why[number_of(on)] = 1
            elif len([other for other in come[on] if not self.unsettled(other)]) > 1:
                why[number_of(on)] = 2
        return why

    def hangs_on(self, number):
        pairs = [(on, on ^ {16 + other}, other) for on in self.states() for other in self.numbers]
        return sorted({other for on, off, other in pairs if self.draws(on, number) != self.draws(off, number)})


def number_of(on):
    return sum(1 << variable for variable in on)


def made_up(many, most_contacts, many_inputs, many_relays, many_nodes, seed=12345):
    """So many schemes, always the same ones."""
    value = seed

    def drawn(below):
        nonlocal value
        value = (value * 1103515245 + 12345) % 2 ** 31
        return (value >> 8) % below

    for number in range(many):
        variables = [*range(many_inputs), *[16 + k for k in range(many_relays)]]
        coils = [drawn(many_nodes) for k in range(many_relays)]
        contacts = []
        for k in range(2 + number % (most_contacts - 1)):
            low, high = sorted([drawn(many_nodes), drawn(many_nodes)])
            if low != high:
                contacts.append((drawn(2), variables[drawn(len(variables))], low, high))
        yield Made(many_inputs, coils, contacts)
