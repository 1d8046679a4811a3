"""Promise 12: some."""

import itertools
import unittest

from helper import PASS, SOME, TOLD, UNTIL, arrange, ask, inputs, load, made_up, number_of, put, relay, relays

CHAIN = ["in a", "relay r at 1", "relay s at 2", "relay t at 3", "close a 0 1", "close r 0 2", "close s 0 3"]
CROSSED = ["relay r at 1", "relay s at 2", "open s 0 1", "open r 0 2"]
CIRCLE = ["relay r at 1", "relay s at 2", "relay t at 3", "close t 0 1", "close r 0 2", "close s 0 3"]


def some(lines, state=0):
    return ask(load(*lines), put(state), SOME)[2]


def alone(many):
    """So many relays, each of which draws while all others are off."""
    lines = relays(*[10 * k + 9 for k in range(many)])
    for k in range(many):
        nodes = [0, *range(10 * k + 11 - many, 10 * k + 10)]
        others = [other for other in range(many) if other != k]
        steps = zip(others, nodes, nodes[1:])
        lines += ["open r" + str(other) + " " + str(low) + " " + str(high) for other, low, high in steps]
    return lines


class Some(unittest.TestCase):
    def test_one_rest_by_all_orders(self):
        self.assertEqual(some(CHAIN, 1), [0, 0, relay(0, 1, 2) + 1])
        self.assertEqual(some(CHAIN, 0), [0, 0, 0])
        self.assertEqual(some(CHAIN, relay(1)), [0, 0, 0])

    def test_at_a_rest(self):
        self.assertEqual(some(CROSSED, relay(1)), [0, 0, relay(1)])
        self.assertEqual(some(CIRCLE, relay(0, 1, 2)), [0, 0, relay(0, 1, 2)])

    def test_several_rests_rising(self):
        self.assertEqual(some(CROSSED), [0, 0, relay(0), relay(1)])
        self.assertEqual(some(CROSSED, relay(0, 1)), [0, 0, relay(0), relay(1)])
        # s and t hold themselves while r is off, which it is from its rung on.
        lines = ["relay r at 9", "relay s at 2", "relay t at 4", "open r 0 1", "close s 1 2", "open r 0 3", "close t 3 4"]
        self.assertEqual(some(lines, relay(0, 1, 2)), [0, 0, 0, relay(1), relay(2), relay(1, 2)])

    def test_rests_with_inputs(self):
        lines = ["in a", "in b", "relay r at 2", "relay s at 3", "close b 0 1", "open s 1 2", "open r 1 3"]
        self.assertEqual([some(lines, state) for state in range(4)],
                         [[0, 0, 0], [0, 0, 1], [0, 0, relay(0) + 2, relay(1) + 2], [0, 0, relay(0) + 3, relay(1) + 3]])

    def test_round_by_some_orders_alone(self):
        self.assertEqual(some(CIRCLE, relay(0)), [0, 1, 0, relay(0, 1, 2)])
        # If s is off by the time of r's rung, r holds itself and t stays off; else t breaks itself.
        lines = ["relay r at 2", "relay s at 9", "relay t at 4", "close r 0 1", "open s 1 2", "open r 0 3", "open t 3 4"]
        self.assertEqual(some(lines, relay(0, 1)), [0, 1, relay(0)])

    def test_round_by_all_orders(self):
        self.assertEqual(some(["relay r at 1", "open r 0 1"]), [0, 1])
        self.assertEqual(some(["in a", "relay r at 1", "relay s at 2", "open s 0 1", "close r 0 2"], 1), [0, 1])

    def test_no_relays(self):
        self.assertEqual(ask(SOME, TOLD), [[0, 0, 0], [0, 0]])
        self.assertEqual(some(["in a", "in b", "lamp l at 0", "close a 0 1"], 2), [0, 0, 2])


class EachOrder(unittest.TestCase):
    @staticmethod
    def circle(order):
        """Each relay follows the one before it in this order, and the first one the last."""
        before = zip(order[-1:] + order, order)
        return [*relays(1, 2, 3, 4, 5), *["close r" + str(k) + " 0 " + str(follower + 1) for k, follower in before]]

    def test_what_one_order_of_five_relays_alone_comes_to(self):
        everything = relay(*range(5))
        for order in itertools.permutations(range(5)):
            self.assertEqual(some(self.circle(order), relay(order[-1])), [0, 1, 0, everything], order)

    def test_that_it_is_one_order_alone(self):
        order = (3, 0, 2, 4, 1)
        lines = self.circle(order)
        for other in itertools.permutations(range(5)):
            told = ask(load(*lines), put(relay(1)), arrange(*other), UNTIL)[3]
            self.assertEqual(told == [0, relay(*range(5)), 1], other == order, other)
            self.assertEqual(told[1:2] == [relay(*range(5))], other == order, other)


class LeftAlone(unittest.TestCase):
    def test_the_objects_order_does_not_count(self):
        for order in itertools.permutations(range(3)):
            told = ask(load(*CIRCLE), put(relay(0)), arrange(*order), SOME, TOLD)
            self.assertEqual(told[3:], [[0, 1, 0, relay(0, 1, 2)], [0, relay(0), *order]])

    def test_the_objects_state_counts(self):
        told = ask(load(*CROSSED), SOME, arrange(1, 0), PASS, SOME, UNTIL, SOME)
        self.assertEqual([told[1], told[4], told[6]], [[0, 0, relay(0), relay(1)], [0, 0, relay(1)], [0, 0, relay(1)]])

    def test_a_refusal_leaves_the_object(self):
        told = ask(load(*relays(*[0] * 6)), put(relay(5)), SOME, TOLD)
        self.assertEqual(told[2:], [[-9], [0, relay(5), *range(6)]])


class Size(unittest.TestCase):
    def test_five_relays(self):
        self.assertEqual(some(relays(*[0] * 5)), [0, 0, relay(*range(5))])
        self.assertEqual(some(alone(5)), [0, 0, *[relay(k) for k in range(5)]])

    def test_five_relays_and_sixteen_inputs(self):
        self.assertEqual(some([*inputs(16), *relays(*[0] * 5)], 65535), [0, 0, relay(*range(5)) + 65535])

    def test_six_relays(self):
        for many in range(6, 13):
            self.assertEqual(some(relays(*[0] * many)), [-9])
            self.assertEqual(some([*relays(*[1] * many), "open r0 0 1"]), [-9])


class AgainstAPlainReckoning(unittest.TestCase):
    def test_made_up_schemes(self):
        kinds = set()
        for many, shape in ((150, (8, 1, 3, 5)), (30, (12, 0, 4, 6)), (3, (16, 0, 5, 6))):
            for made in made_up(many, *shape, seed=3):
                for on in made.states():
                    scans = [made.scanned(on, order) for order in itertools.permutations(made.numbers)]
                    rests = {number_of(states[-1]) for states in scans if states[-1] == states[-2]}
                    round_too = int(any(states[-1] != states[-2] for states in scans))
                    self.assertEqual(some(made.lines(), number_of(on)), [0, round_too, *sorted(rests)], made.lines())
                    kinds.add((round_too, min(len(rests), 2)))
        self.assertLessEqual({(0, 1), (0, 2), (1, 0), (1, 1), (1, 2)}, kinds)


if __name__ == "__main__":
    unittest.main()
