"""Promise 8: round."""

import itertools
import unittest

from helper import PASS, ROUND, TOLD, UNTIL, arrange, ask, counter, inputs, load, made_up, number_of, put, relay, relays

BREAKER = load("in a", "relay r at 1", "open r 0 1")
CHAIN = load("in a", "relay r at 1", "relay s at 2", "relay t at 3", "close a 0 1", "close r 0 2", "close s 0 3")
# The chain comes to a relay that breaks itself.
BROKEN_CHAIN = load("in a", "relay r at 1", "relay s at 2", "relay t at 4",
                    "close a 0 1", "close r 0 2", "close s 0 3", "open t 3 4")
CIRCLE = load("relay r at 1", "relay s at 2", "relay t at 3", "close t 0 1", "close r 0 2", "close s 0 3")
COUNTDOWN = tuple(reversed(range(8)))


def rounded(scheme, state, *order):
    """What round answers; the object has to be as it was."""
    told = ask(scheme, put(state), arrange(*order), TOLD, ROUND, TOLD)
    if told[3] != told[5]:
        raise ValueError("the object is not as it was")
    return told[4]


class ComesRound(unittest.TestCase):
    def test_among_those_that_come_again(self):
        self.assertEqual(rounded(BREAKER, 0, 0), [0, 0, 0, relay(0)])
        self.assertEqual(rounded(BREAKER, relay(0), 0), [0, 0, relay(0), 0])
        self.assertEqual(rounded(BREAKER, 1, 0), [0, 0, 1, relay(0) + 1])

    def test_passes_before(self):
        r, rs, rst = relay(0) + 1, relay(0, 1) + 1, relay(0, 1, 2) + 1
        self.assertEqual(rounded(BROKEN_CHAIN, 1, 2, 1, 0), [0, 2, rs, rst])
        self.assertEqual(rounded(BROKEN_CHAIN, r, 2, 1, 0), [0, 1, rs, rst])
        self.assertEqual(rounded(BROKEN_CHAIN, rs, 2, 1, 0), [0, 0, rs, rst])
        self.assertEqual(rounded(BROKEN_CHAIN, rst, 2, 1, 0), [0, 0, rst, rs])
        self.assertEqual(rounded(BROKEN_CHAIN, 1, 0, 1, 2), [0, 1, rst, rs])

    def test_the_order_counts(self):
        self.assertEqual(rounded(CIRCLE, relay(0), 1, 0, 2), [0, 0, relay(0), relay(1, 2)])
        self.assertEqual(rounded(CIRCLE, relay(0), 2, 1, 0), [0, 1, relay(1), relay(0, 2)])
        self.assertEqual(rounded(CIRCLE, relay(0, 2), 2, 1, 0), [0, 0, relay(0, 2), relay(1)])
        self.assertEqual(rounded(CIRCLE, relay(0), 0, 1, 2), [-5])

    def test_each_is_a_pass_behind_the_one_before(self):
        told = ask(load(*counter()), arrange(*COUNTDOWN), ROUND, *[PASS] * 37)
        self.assertEqual([0, *[answer[1] for answer in told[3:]]], told[2][2:40])

    def test_asked_again(self):
        told = ask(BROKEN_CHAIN, put(1), arrange(2, 1, 0), ROUND, ROUND, PASS, ROUND)
        self.assertEqual(told[3], told[4])
        self.assertEqual(told[6], [0, 1, *told[3][2:]])


class Rests(unittest.TestCase):
    def test_refused(self):
        self.assertEqual(rounded(CHAIN, 0, 0, 1, 2), [-5])
        self.assertEqual(rounded(CHAIN, 1, 0, 1, 2), [-5])
        self.assertEqual(rounded(CHAIN, 1, 2, 1, 0), [-5])
        self.assertEqual(rounded(CHAIN, relay(0, 1, 2), 2, 1, 0), [-5])
        self.assertEqual(rounded(BROKEN_CHAIN, 0, 2, 1, 0), [-5])

    def test_no_relays(self):
        self.assertEqual(ask(ROUND, TOLD), [[-5], [0, 0]])
        self.assertEqual(ask(load("in a"), put(1), ROUND, TOLD)[2:], [[-5], [0, 1]])


class Size(unittest.TestCase):
    def test_eight_relays_and_all_their_states(self):
        for first in (0, 1, 200, 255):
            states = [(first + k) % 256 << 16 for k in range(256)]
            self.assertEqual(rounded(load(*counter()), first << 16, *COUNTDOWN), [0, 0, *states])

    def test_eight_relays_at_a_rest(self):
        self.assertEqual(rounded(load(*counter(True)), 0, *COUNTDOWN), [-5])
        self.assertEqual(ask(load(*relays(*[0] * 8)), ROUND)[1], [-5])

    def test_eight_relays_and_sixteen_inputs(self):
        lines = [*inputs(16), *relays(1, *[2] * 7), "open r0 0 1"]
        self.assertEqual(ask(load(*lines), put(65535), ROUND)[2], [0, 0, 65535, relay(0) + 65535])

    def test_nine_relays(self):
        for many in (9, 10, 11, 12):
            for lines in ([], ["open r0 0 1"], ["open r8 0 1"]):
                told = ask(load(*relays(*[1] * many), *lines), put(relay(3)), ROUND, TOLD)
                self.assertEqual(told[2:], [[-9], [0, relay(3), *range(many)]])


class AgainstAPlainReckoning(unittest.TestCase):
    def test_all_orders_and_states(self):
        for made in made_up(60, 8, 1, 3, 5, seed=8):
            for order in itertools.permutations(range(3)):
                for on in made.states():
                    states = made.scanned(on, order)
                    first = states.index(states[-1])
                    answer = [0, first, *[number_of(each) for each in states[first:-1]]]
                    if states[-1] == states[-2]:
                        answer = [-5]
                    told = rounded(made.load(), number_of(on), *order)
                    self.assertEqual(told, answer, (made.lines(), order, on))

    def test_just_one_of_until_and_round_answers(self):
        for made in made_up(100, 9, 1, 4, 5, seed=9):
            told = ask(made.load(), put(1), ROUND, UNTIL)
            self.assertEqual([told[2] == [-5], told[3] == [-5]].count(True), 1, made.lines())


if __name__ == "__main__":
    unittest.main()
