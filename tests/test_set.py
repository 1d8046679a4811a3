"""Promise 2: set."""

import unittest

from helper import PASS, TOLD, ask, load, put, relay

SCHEME = load("in a", "in b", "relay r at 1", "lamp l at 2")


class Set(unittest.TestCase):
    def test_states_of_the_scheme(self):
        for state in (0, 1, 2, 3, relay(0), relay(0) + 1, relay(0) + 3):
            self.assertEqual(ask(SCHEME, put(state), TOLD)[1:], [[0, state], [0, state, 0]])

    def test_least_and_greatest(self):
        self.assertEqual(ask(SCHEME, put(0))[1], [0, 0])
        self.assertEqual(ask(SCHEME, put(2 ** 32 - 1))[1], [0, relay(0) + 3])

    def test_bits_of_no_variable_are_taken_away(self):
        for bit in range(32):
            state = 1 << bit
            left = state if bit in (0, 1, 16) else 0
            self.assertEqual(ask(SCHEME, put(state), TOLD)[1:], [[0, left], [0, left, 0]], bit)

    def test_all_variables(self):
        lines = ["in i" + str(k) for k in range(16)] + ["relay r" + str(k) + " at 1" for k in range(12)]
        self.assertEqual(ask(load(*lines), put(2 ** 32 - 1))[1], [0, 2 ** 28 - 1])

    def test_without_a_scheme(self):
        self.assertEqual(ask(put(2 ** 32 - 1), TOLD), [[0, 0], [0, 0]])

    def test_refused(self):
        for x in (-1, 2 ** 32, -2 ** 32, 2 ** 33 - 1, 2 ** 32 + 1):
            self.assertEqual(ask(SCHEME, put(x))[1], [-1], x)
            self.assertEqual(ask(put(x)), [[-1]], x)

    def test_a_refusal_leaves_the_state(self):
        for x in (-1, 2 ** 32, -2 ** 32, 2 ** 33 - 1):
            self.assertEqual(ask(SCHEME, put(2), put(x), TOLD)[2:], [[-1], [0, 2, 0]], x)

    def test_the_last_one_counts(self):
        self.assertEqual(ask(SCHEME, put(3), put(1), TOLD)[3], [0, 1, 0])

    def test_pass_begins_there(self):
        self.assertEqual(ask(load("in a", "relay r at 1", "close a 0 1"), put(1), PASS)[2], [0, relay(0) + 1])


if __name__ == "__main__":
    unittest.main()
