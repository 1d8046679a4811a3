"""What the document promises over the whole: calls of all kinds in one list, great schemes, what is the same."""

import itertools
import unittest

from helper import (ORDER, PASS, ROUND, RUNGS, SOME, SURE, TOLD, UNTIL, arrange, ask, counter, hang, inputs, load,
                    made_up, number_of, put, relay, relays)
from rungpasses.scheme import answers

ALL_KINDS = [PASS, RUNGS, UNTIL, ROUND, hang(0), ORDER, SURE, SOME, TOLD]


def great(many, inputs_used, relays_used):
    """A text with all inputs and lamps, so many relays, and 256 contacts of so many inputs and relays."""
    names = ["i" + str(k) for k in range(inputs_used)] + ["r" + str(k) for k in range(relays_used)]
    lines = inputs(16) + relays(*range(1, many + 1)) + ["lamp l" + str(k) + " at " + str(k) for k in range(16)]
    for k in range(256):
        low = k * 7 % 62
        high = low + 1 + k * 5 % (63 - low)
        lines.append(("open ", "close ")[k // 3 % 2] + names[k % len(names)] + " " + str(low) + " " + str(high))
    return lines


class OneList(unittest.TestCase):
    def test_forty_calls_of_all_kinds(self):
        crossed = load("relay r at 1", "relay s at 2", "open s 0 1", "open r 0 2")
        breaker = load("in a", "relay r at 1", "open r 0 1")
        r, s = relay(0), relay(1)
        steps = [
            (TOLD, [0, 0]), (UNTIL, [0, 0, 0]), (ROUND, [-5]), (hang(0), [-1]), (ORDER, [0]), (SURE, [0, 1]),
            (SOME, [0, 0, 0]), (crossed, [0, 0, 0]), (SOME, [0, 0, r, s]), (SURE, [0, 0, 0, 1]), (ORDER, [-5]),
            (hang(0), [0, 1]), (hang(1), [0, 0]), (hang(2), [-1]), (ROUND, [-5]), (arrange(1, 0), [0]),
            (RUNGS, [0, s, s]), (TOLD, [0, 0, 1, 0]), (UNTIL, [0, s, 1]), (TOLD, [0, s, 1, 0]), (SOME, [0, 0, s]),
            (put(r + s), [0, r + s]), (PASS, [0, r]), (UNTIL, [0, r, 0]), (arrange(0), [-1]), (put(-1), [-1]),
            (load("relay r at 64"), [0, 1, 0]), (TOLD, [0, r, 1, 0]), (breaker, [0, 0, 0]), (TOLD, [0, 0, 0]),
            (put(1), [0, 1]), (UNTIL, [-5]), (ROUND, [0, 0, 1, r + 1]), (PASS, [0, r + 1]), (ROUND, [0, 0, r + 1, 1]),
            (SOME, [0, 1]), (SURE, [0, 0, 0, 1]), (hang(0), [0, 0]), (ORDER, [-5]), (TOLD, [0, r + 1, 0]),
        ]
        self.assertEqual(len(steps), 40)
        self.assertEqual(ask(*[call for call, answer in steps]), [answer for call, answer in steps])

    def test_a_new_scheme_is_asked_anew(self):
        # States of both are the same, what draws in them is not.
        closer = load("in a", "relay r at 1", "close a 0 1")
        opener = load("in a", "relay r at 1", "open a 0 1")
        told = ask(closer, put(1), UNTIL, opener, put(1), UNTIL, closer, put(1), UNTIL)
        self.assertEqual([told[2], told[5], told[8]], [[0, relay(0) + 1, 1], [0, 1, 0], [0, relay(0) + 1, 1]])

    def test_the_list_handed_in_is_the_same(self):
        for lines in (counter(), great(5, 1, 5), great(12, 16, 12)):
            calls = load(*lines) + [number for call in ALL_KINDS for number in call]
            copied = list(calls)
            first = answers(calls)
            self.assertEqual(calls, copied)
            self.assertEqual(answers(calls), first)
            self.assertEqual({type(number) for number in first}, {int})

    def test_one_call_alone_answers_as_in_a_list(self):
        for made in made_up(60, 9, 1, 3, 5, seed=14):
            asked = [call for call in ALL_KINDS if call not in (PASS, UNTIL)]
            told = ask(made.load(), put(relay(1) + 1), *asked)[2:]
            alone = [ask(made.load(), put(relay(1) + 1), call)[2] for call in asked]
            self.assertEqual(told, alone, made.lines())


class GreatSchemes(unittest.TestCase):
    def test_the_greatest_that_each_call_answers(self):
        told = ask(load(*great(8, 16, 8)), put(43690), UNTIL, ROUND, hang(0), ORDER, SURE, SOME)
        self.assertEqual([told[2] == [-5], told[3] == [-5]].count(True), 1)
        self.assertEqual(told[4:], [[-9], [-9], [-9], [-9]])
        told = ask(load(*great(12, 2, 4)), UNTIL, ROUND, hang(11), ORDER, SURE, SOME)
        self.assertEqual([answer[0] for answer in told], [0, -9, -9, 0, told[4][0], -9, -9])
        self.assertIn(told[4][0], (0, -5))
        self.assertEqual([len(told[4])], [13] if told[4][0] == 0 else [1])
        told = ask(load(*great(5, 16, 5)), put(21845), SOME, SURE)
        self.assertEqual([told[2][0], told[3]], [0, [-9]])

    def test_all_at_their_greatest_together(self):
        told = ask(load(*relays(*range(1, 6)), "close r0 0 2", "close r1 0 3", "close r2 0 4", "close r3 0 5"),
                   put(relay(0, 1, 2, 3, 4)), SURE, SOME, ORDER, hang(4), ROUND, UNTIL)
        self.assertEqual(told[2:], [[0, 1], [0, 0, 0], [0, 0, 1, 2, 3, 4], [0, 3], [-5], [0, 0, 1]])

    def test_twelve_relays(self):
        lines = relays(*[0] * 12)
        told = ask(load(*lines), PASS, RUNGS, hang(11), ORDER, UNTIL, ROUND, SURE, SOME, TOLD)
        full = relay(*range(12))
        self.assertEqual(told[1:], [[0, full], [0, *[full] * 12], [0], [0, *range(12)], [-9], [-9], [-9], [-9],
                                    [0, full, *range(12)]])


class ProgramAndCabinet(unittest.TestCase):
    def test_one_pass_in_the_order_told_comes_to_the_one_rest(self):
        found = 0
        for made in made_up(150, 7, 1, 3, 6, seed=15):
            order = ask(made.load(), ORDER)[1]
            if order[0] == 0:
                found += 1
                come = made.may_come()
                self.assertEqual(ask(made.load(), SURE)[1], [0, 1])
                for on in made.states():
                    rests = [number_of(other) for other in come[on] if not made.unsettled(other)]
                    told = ask(made.load(), put(number_of(on)), arrange(*order[1:]), PASS, UNTIL)
                    self.assertEqual(told[3:], [[0, *rests], [0, *rests, 0]], made.lines())
        self.assertGreater(found, 30)

    def test_from_sure_states_every_order_comes_to_the_one_rest(self):
        for made in made_up(60, 8, 1, 3, 5, seed=16):
            come = made.may_come()
            unsure = made.unsure()
            for on in made.states():
                if number_of(on) not in unsure:
                    rests = [number_of(other) for other in come[on] if not made.unsettled(other)]
                    told = ask(made.load(), put(number_of(on)), SOME)[2]
                    self.assertEqual(told, [0, 0, *rests], made.lines())

    def test_some_tells_what_until_tells_by_each_order(self):
        for made in made_up(60, 9, 1, 4, 6, seed=17):
            scheme = made.load() + put(1)
            orders = itertools.permutations(range(4))
            told = [ask(scheme, arrange(*order), UNTIL)[3] for order in orders]
            states = sorted({answer[1] for answer in told if answer[0] == 0})
            self.assertEqual(ask(scheme, SOME)[2], [0, int([-5] in told), *states], made.lines())


if __name__ == "__main__":
    unittest.main()
