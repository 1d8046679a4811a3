"""Promise 6: rungs."""

import unittest

from helper import PASS, RUNGS, TOLD, arrange, ask, load, put, relay

CHAIN = load("in a", "relay r at 1", "relay s at 2", "relay t at 3", "close a 0 1", "close r 0 2", "open s 0 3")


class Rungs(unittest.TestCase):
    def test_the_state_behind_each_rung(self):
        self.assertEqual(ask(CHAIN, put(1), RUNGS)[2], [0, relay(0) + 1, relay(0, 1) + 1, relay(0, 1) + 1])
        self.assertEqual(ask(CHAIN, put(1), arrange(2, 1, 0), RUNGS)[3],
                         [0, relay(2) + 1, relay(2) + 1, relay(0, 2) + 1])
        self.assertEqual(ask(CHAIN, put(relay(0, 1)), arrange(1, 0, 2), RUNGS)[3], [0, relay(0, 1), relay(1), relay(1)])

    def test_the_object_stays(self):
        told = ask(CHAIN, put(1), arrange(2, 1, 0), RUNGS, TOLD, RUNGS)
        self.assertEqual(told[4], [0, 1, 2, 1, 0])
        self.assertEqual(told[5], told[3])

    def test_the_last_is_where_pass_comes_to(self):
        for order in ([0, 1, 2], [1, 2, 0], [2, 1, 0]):
            for state in (0, 1, relay(0), relay(1) + 1, relay(0, 1, 2)):
                told = ask(CHAIN, put(state), arrange(*order), RUNGS, PASS)
                self.assertEqual(len(told[3]), 4)
                self.assertEqual(told[3][-1], told[4][1])

    def test_behind_a_pass(self):
        told = ask(CHAIN, put(1), arrange(2, 1, 0), PASS, RUNGS)
        self.assertEqual(told[4], [0, relay(0, 2) + 1, relay(0, 1, 2) + 1, relay(0, 1, 2) + 1])

    def test_twelve_relays(self):
        told = ask(load(*["relay r" + str(k) + " at 0" for k in range(12)]), RUNGS)
        self.assertEqual(told[1], [0] + [relay(*range(k + 1)) for k in range(12)])

    def test_no_relays(self):
        self.assertEqual(ask(RUNGS), [[0]])
        self.assertEqual(ask(load("in a", "lamp l at 0"), put(1), RUNGS, TOLD)[2:], [[0], [0, 1]])


if __name__ == "__main__":
    unittest.main()
