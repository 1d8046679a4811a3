"""Promise 4: told."""

import unittest

from helper import PASS, RUNGS, TOLD, arrange, ask, load, put, relay

SCHEME = load("in a", "relay r at 1", "relay s at 0", "close a 0 1")


class Told(unittest.TestCase):
    def test_new_object(self):
        self.assertEqual(ask(TOLD), [[0, 0]])

    def test_behind_each_call(self):
        told = ask(SCHEME, TOLD, put(1), TOLD, arrange(1, 0), TOLD, PASS, TOLD, RUNGS, TOLD)
        self.assertEqual(told[1], [0, 0, 0, 1])
        self.assertEqual(told[3], [0, 1, 0, 1])
        self.assertEqual(told[5], [0, 1, 1, 0])
        self.assertEqual(told[7], [0, relay(0, 1) + 1, 1, 0])
        self.assertEqual(told[9], [0, relay(0, 1) + 1, 1, 0])

    def test_asked_again(self):
        told = ask(SCHEME, put(1), arrange(1, 0), TOLD, TOLD, TOLD)
        self.assertEqual(told[3:], [[0, 1, 1, 0]] * 3)

    def test_no_relays(self):
        self.assertEqual(ask(load("in a", "in b"), put(2), TOLD)[2], [0, 2])


if __name__ == "__main__":
    unittest.main()
