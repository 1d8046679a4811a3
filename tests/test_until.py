"""Promise 7: until."""

import itertools
import unittest

from helper import ORDER, ROUND, TOLD, UNTIL, arrange, ask, counter, inputs, load, made_up, number_of, put, relay, relays

CHAIN = load("in a", "relay r at 1", "relay s at 2", "relay t at 3", "close a 0 1", "close r 0 2", "close s 0 3")
CROSSED = load("relay r at 1", "relay s at 2", "open s 0 1", "open r 0 2")
BREAKER = load("in a", "relay r at 1", "open r 0 1")
# Each hangs on the one before it: by some orders what is on goes on from one to the next for ever.
CIRCLE = load("relay r at 1", "relay s at 2", "relay t at 3", "close t 0 1", "close r 0 2", "close s 0 3")
COUNTDOWN = tuple(reversed(range(8)))


def scanned(scheme, state, *order):
    """What until answers, and the object afterwards."""
    told = ask(scheme, put(state), arrange(*order), UNTIL, TOLD)
    return told[3], told[4]


class Rests(unittest.TestCase):
    def test_at_a_rest_already(self):
        self.assertEqual(scanned(CHAIN, 0, 0, 1, 2), ([0, 0, 0], [0, 0, 0, 1, 2]))
        full = relay(0, 1, 2) + 1
        self.assertEqual(scanned(CHAIN, full, 2, 0, 1), ([0, full, 0], [0, full, 2, 0, 1]))
        self.assertEqual(scanned(CROSSED, relay(1), 0, 1), ([0, relay(1), 0], [0, relay(1), 0, 1]))

    def test_after_one_pass(self):
        full = relay(0, 1, 2) + 1
        self.assertEqual(scanned(CHAIN, 1, 0, 1, 2), ([0, full, 1], [0, full, 0, 1, 2]))
        self.assertEqual(scanned(CHAIN, relay(2), 2, 1, 0), ([0, 0, 1], [0, 0, 2, 1, 0]))

    def test_after_several_passes(self):
        full = relay(0, 1, 2) + 1
        self.assertEqual(scanned(CHAIN, 1, 0, 2, 1), ([0, full, 2], [0, full, 0, 2, 1]))
        self.assertEqual(scanned(CHAIN, 1, 2, 1, 0), ([0, full, 3], [0, full, 2, 1, 0]))
        self.assertEqual(scanned(CHAIN, relay(0, 1, 2), 2, 1, 0), ([0, 0, 3], [0, 0, 2, 1, 0]))

    def test_asked_again_it_is_there(self):
        told = ask(CHAIN, put(1), arrange(2, 1, 0), UNTIL, UNTIL)
        self.assertEqual(told[3:], [[0, relay(0, 1, 2) + 1, 3], [0, relay(0, 1, 2) + 1, 0]])

    def test_the_order_counts(self):
        self.assertEqual(scanned(CROSSED, 0, 0, 1)[0], [0, relay(0), 1])
        self.assertEqual(scanned(CROSSED, 0, 1, 0)[0], [0, relay(1), 1])
        self.assertEqual(scanned(CIRCLE, relay(0), 0, 1, 2)[0], [0, 0, 1])
        self.assertEqual(scanned(CIRCLE, relay(0), 0, 2, 1)[0], [0, 0, 1])
        self.assertEqual(scanned(CIRCLE, relay(0), 1, 2, 0)[0], [0, relay(0, 1, 2), 1])
        self.assertEqual(scanned(CIRCLE, relay(0), 1, 0, 2)[0], [-5])
        self.assertEqual(scanned(CIRCLE, relay(0), 2, 1, 0)[0], [-5])

    def test_by_number_without_arrange(self):
        self.assertEqual(ask(CROSSED, UNTIL, TOLD)[1:], [[0, relay(0), 1], [0, relay(0), 0, 1]])

    def test_no_relays(self):
        self.assertEqual(ask(UNTIL, TOLD), [[0, 0, 0], [0, 0]])
        self.assertEqual(ask(load("in a", "lamp l at 0", "open a 0 1"), put(1), UNTIL, TOLD)[2:], [[0, 1, 0], [0, 1]])


class ComesRound(unittest.TestCase):
    def test_refused(self):
        for state in (0, 1, relay(0), relay(0) + 1):
            self.assertEqual(scanned(BREAKER, state, 0), ([-5], [0, state, 0]))

    def test_with_passes_before(self):
        lines = load("relay r at 0", "relay s at 3", "close r 0 2", "open s 2 3")
        self.assertEqual(scanned(lines, 0, 1, 0), ([-5], [0, 0, 1, 0]))

    def test_the_object_goes_on_as_it_was(self):
        told = ask(CIRCLE, put(relay(0)), arrange(1, 0, 2), UNTIL, arrange(1, 2, 0), UNTIL)
        self.assertEqual(told[3:], [[-5], [0], [0, relay(0, 1, 2), 1]])


class Size(unittest.TestCase):
    def test_eight_relays(self):
        full = relay(*range(8))
        self.assertEqual(ask(load(*relays(*[0] * 8)), UNTIL, TOLD)[1:], [[0, full, 1], [0, full, *range(8)]])
        self.assertEqual(ask(load(*inputs(16), *relays(*[0] * 8)), put(65535), UNTIL)[2], [0, full + 65535, 1])

    def test_many_passes(self):
        full = relay(*range(8))
        self.assertEqual(scanned(load(*counter(True)), 0, *COUNTDOWN), ([0, full, 128], [0, full, *COUNTDOWN]))
        self.assertEqual(scanned(load(*counter(True)), 28 << 16, *COUNTDOWN), ([0, full, 100], [0, full, *COUNTDOWN]))

    def test_many_passes_round(self):
        for state in (0, 77 << 16, 255 << 16):
            self.assertEqual(scanned(load(*counter()), state, *COUNTDOWN), ([-5], [0, state, *COUNTDOWN]))

    def test_nine_relays(self):
        for many in (9, 10, 11, 12):
            for lines in ([], ["open r0 0 1"], ["close r8 0 1"]):
                told = ask(load(*relays(*[1] * many), *lines), put(relay(8)), UNTIL, TOLD)
                self.assertEqual(told[2:], [[-9], [0, relay(8), *range(many)]])

    def test_inputs_do_not_count_as_relays(self):
        self.assertEqual(ask(load(*inputs(16), *relays(0)), UNTIL)[1], [0, relay(0), 1])

    def test_behind_other_calls(self):
        self.assertEqual(ask(CHAIN, put(1), ORDER, ROUND, UNTIL)[4], [0, relay(0, 1, 2) + 1, 1])


class AgainstAPlainReckoning(unittest.TestCase):
    def test_all_orders_and_states(self):
        for made in made_up(60, 8, 1, 3, 5, seed=7):
            for order in itertools.permutations(range(3)):
                for on in made.states():
                    states = made.scanned(on, order)
                    answer = [-5]
                    left = number_of(on)
                    if states[-1] == states[-2]:
                        left = number_of(states[-1])
                        answer = [0, left, len(states) - 2]
                    told = scanned(made.load(), number_of(on), *order)
                    self.assertEqual(told, (answer, [0, left, *order]), (made.lines(), order, on))


if __name__ == "__main__":
    unittest.main()
