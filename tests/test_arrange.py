"""Promise 3: arrange."""

import itertools
import unittest

from helper import RUNGS, TOLD, arrange, ask, load, put, relay

SCHEME = load("in a", "relay r at 0", "relay s at 0", "relay t at 0", "lamp l at 0")


class Arrange(unittest.TestCase):
    def test_every_order_of_three(self):
        for order in itertools.permutations(range(3)):
            self.assertEqual(ask(SCHEME, arrange(*order), TOLD)[1:], [[0], [0, 0, *order]])

    def test_rungs_go_by_it(self):
        self.assertEqual(ask(SCHEME, arrange(2, 0, 1), RUNGS)[2], [0, relay(2), relay(0, 2), relay(0, 1, 2)])

    def test_twelve_relays(self):
        text = load(*["relay r" + str(k) + " at 0" for k in range(12)])
        order = list(reversed(range(12)))
        self.assertEqual(ask(text, arrange(*order), TOLD)[1:], [[0], [0, 0, *order]])

    def test_state_stays(self):
        self.assertEqual(ask(SCHEME, put(relay(1) + 1), arrange(2, 1, 0), TOLD)[3], [0, relay(1) + 1, 2, 1, 0])

    WRONG = [
        [], [0], [0, 1], [1, 2], [0, 1, 2, 3], [0, 1, 2, 0], [0, 1, 2, 2], [0, 0, 1], [0, 1, 1], [2, 2, 2],
        [0, 1, 3], [1, 2, 3], [16, 17, 18], [-1, 0, 1], [0, 1, -2], [0, 1, 2, -1], [-4294967296, 0, 1],
        [0, 1, 4294967298], [0, 1, 8589934591], [8589934591] * 3,
    ]

    def test_refused(self):
        for order in self.WRONG:
            self.assertEqual(ask(SCHEME, arrange(*order))[1], [-1], order)

    def test_very_long_lists(self):
        self.assertEqual(ask(SCHEME, arrange(*[0, 1, 2] * 9000))[1], [-1])
        self.assertEqual(ask(arrange(*range(29000))), [[-1]])

    def test_a_refusal_leaves_the_order(self):
        for order in self.WRONG:
            told = ask(SCHEME, put(1), arrange(2, 0, 1), arrange(*order), TOLD)
            self.assertEqual(told[3:], [[-1], [0, 1, 2, 0, 1]], order)

    def test_no_relays(self):
        self.assertEqual(ask(arrange(), TOLD), [[0], [0, 0]])
        self.assertEqual(ask(load("in a", "lamp l at 1"), arrange(), TOLD)[1:], [[0], [0, 0]])
        for order in ([0], [-1], [16], [8589934591], [0, 1]):
            self.assertEqual(ask(arrange(*order), TOLD), [[-1], [0, 0]], order)


if __name__ == "__main__":
    unittest.main()
