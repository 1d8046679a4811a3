"""Promise 5: pass."""

import itertools
import unittest

from helper import PASS, TOLD, arrange, ask, load, made_up, number_of, put, relay


def passed(lines, state, order=None, times=1):
    """The state behind so many passes; every pass has to answer it as told does."""
    told = ask(load(*lines), put(state), *([] if order is None else [arrange(*order)]), *[PASS] * times, TOLD)
    if told[-2] != told[-1][:2]:
        raise ValueError("pass and told differ")
    return told[-2][1]


class Contacts(unittest.TestCase):
    def test_closer_of_an_input(self):
        lines = ["in a", "in b", "relay r at 1", "close b 0 1"]
        for state in range(4):
            self.assertEqual(passed(lines, state), state | (relay(0) if state & 2 else 0))

    def test_opener_of_an_input(self):
        lines = ["in a", "in b", "relay r at 1", "open b 0 1"]
        for state in range(4):
            self.assertEqual(passed(lines, state), state | (0 if state & 2 else relay(0)))

    def test_closer_of_a_relay(self):
        lines = ["in a", "relay r at 5", "relay s at 1", "close s 0 5", "close a 0 1"]
        self.assertEqual(passed(lines, relay(1)), relay(0))
        self.assertEqual(passed(lines, 0), 0)

    def test_opener_of_a_relay(self):
        lines = ["in a", "relay r at 5", "relay s at 1", "open s 0 5", "close a 0 1"]
        self.assertEqual(passed(lines, relay(1)), 0)
        self.assertEqual(passed(lines, 0), relay(0))

    def test_every_variable(self):
        names = ["i" + str(k) for k in range(16)] + ["r" + str(k) for k in range(12)]
        for variable, name in enumerate(names):
            lines = ["in i" + str(k) for k in range(16)]
            lines += ["relay r" + str(k) + " at " + ("1" if k == 0 else "2") for k in range(12)]
            # Inputs stay; relays other than the first are at a dead node.
            left = 1 << variable if variable < 16 else 0
            self.assertEqual(passed(lines + ["close " + name + " 0 1"], 1 << variable), left | relay(0), name)
            self.assertEqual(passed(lines + ["open " + name + " 0 1"], 1 << variable), left, name)

    def test_relay_that_draws_no_more_goes_off(self):
        self.assertEqual(passed(["relay r at 1"], relay(0)), 0)
        self.assertEqual(passed(["in a", "relay r at 1", "close a 0 1"], relay(0)), 0)

    def test_inputs_and_lamps_stay_out(self):
        lines = ["in a", "in b", "relay r at 1", "lamp l at 0", "lamp m at 1"]
        self.assertEqual(passed(lines, 3), 3)


class Live(unittest.TestCase):
    def test_relay_at_the_rail(self):
        self.assertEqual(passed(["relay r at 0"], 0), relay(0))
        self.assertEqual(passed(["relay r at 0"], relay(0)), relay(0))

    def test_relay_away_from_the_rail(self):
        for node in range(1, 64):
            self.assertEqual(passed(["relay r at " + str(node)], relay(0)), 0)

    def test_over_several_contacts(self):
        lines = ["in a", "in b", "in c", "relay r at 9", "close a 0 4", "open b 4 7", "close c 7 9"]
        for state in range(8):
            self.assertEqual(passed(lines, state), state | (relay(0) if state == 5 else 0))

    def test_against_the_nodes_order(self):
        lines = ["in a", "relay r at 1", "close a 1 9", "close a 0 9"]
        self.assertEqual(passed(lines, 1), relay(0) + 1)
        self.assertEqual(passed(lines, 0), 0)

    def test_zigzag(self):
        path = [0, 60, 5, 40, 3, 63, 1, 20]
        steps = ["close a " + str(min(pair)) + " " + str(max(pair)) for pair in zip(path, path[1:])]
        for contacts in (steps, steps[::-1]):
            self.assertEqual(passed(["in a", "relay r at 20"] + contacts, 1), relay(0) + 1)
            for left_out in range(len(steps)):
                fewer = contacts[:left_out] + contacts[left_out + 1:]
                self.assertEqual(passed(["in a", "relay r at 20"] + fewer, 1), 1)

    def test_through_all_nodes(self):
        steps = ["open a " + str(node) + " " + str(node + 1) for node in range(63)]
        for contacts in (steps, steps[::-1]):
            self.assertEqual(passed(["in a", "relay r at 63"] + contacts, 0), relay(0))
            self.assertEqual(passed(["in a", "relay r at 63"] + contacts, 1), 1)

    def test_side_by_side(self):
        lines = ["in a", "in b", "relay r at 1", "close a 0 1", "close b 0 1"]
        for state in range(4):
            self.assertEqual(passed(lines, state), state | (relay(0) if state else 0))

    def test_a_ring_of_nodes_away_from_the_rail(self):
        lines = ["in a", "relay r at 1", "close a 1 2", "close a 2 3", "close a 1 3"]
        self.assertEqual(passed(lines, 1), 1)

    def test_coils_let_nothing_through(self):
        self.assertEqual(passed(["in a", "relay r at 0", "relay s at 1", "lamp l at 0", "close a 1 2"], 1), relay(0) + 1)


class Rungs(unittest.TestCase):
    CHAIN = ["in a", "relay r at 1", "relay s at 2", "relay t at 3", "close a 0 1", "close r 0 2", "close s 0 3"]

    def test_each_rung_sees_the_state_as_it_then_is(self):
        self.assertEqual(passed(self.CHAIN, 1, [0, 1, 2]), relay(0, 1, 2) + 1)
        self.assertEqual(passed(self.CHAIN, 1, [0, 2, 1]), relay(0, 1) + 1)
        self.assertEqual(passed(self.CHAIN, 1, [1, 0, 2]), relay(0) + 1)
        self.assertEqual(passed(self.CHAIN, 1, [1, 2, 0]), relay(0) + 1)
        self.assertEqual(passed(self.CHAIN, 1, [2, 0, 1]), relay(0, 1) + 1)
        self.assertEqual(passed(self.CHAIN, 1, [2, 1, 0]), relay(0) + 1)

    def test_pass_after_pass(self):
        self.assertEqual(passed(self.CHAIN, 1, [2, 1, 0], 2), relay(0, 1) + 1)
        self.assertEqual(passed(self.CHAIN, 1, [2, 1, 0], 3), relay(0, 1, 2) + 1)
        self.assertEqual(passed(self.CHAIN, 1, [2, 1, 0], 4), relay(0, 1, 2) + 1)

    def test_going_off_is_seen_too(self):
        self.assertEqual(passed(self.CHAIN, relay(0, 1, 2), [0, 1, 2]), 0)
        self.assertEqual(passed(self.CHAIN, relay(0, 1, 2), [2, 1, 0]), relay(1, 2))

    def test_the_order_picks_the_rest(self):
        lines = ["relay r at 1", "relay s at 2", "open s 0 1", "open r 0 2"]
        self.assertEqual(passed(lines, 0, [0, 1]), relay(0))
        self.assertEqual(passed(lines, 0, [1, 0]), relay(1))

    def test_a_relay_that_breaks_itself(self):
        lines = ["relay r at 1", "open r 0 1"]
        self.assertEqual([passed(lines, 0, times=times) for times in (1, 2, 3)], [relay(0), 0, relay(0)])

    def test_a_relay_that_holds_itself(self):
        lines = ["in a", "relay r at 1", "close a 0 1", "close r 0 1"]
        told = ask(load(*lines), PASS, put(1), PASS, put(relay(0)), PASS)
        self.assertEqual([told[1], told[3], told[5]], [[0, 0], [0, relay(0) + 1], [0, relay(0)]])

    def test_no_relays(self):
        self.assertEqual(ask(PASS), [[0, 0]])
        self.assertEqual(passed(["in a", "in b", "open a 0 1"], 2), 2)


class AgainstAPlainReckoning(unittest.TestCase):
    def test_all_orders_and_states(self):
        for made in made_up(40, 12, 2, 3, 6):
            for order in itertools.permutations(range(3)):
                for on in made.states():
                    expected = number_of(made.passed(on, order))
                    self.assertEqual(passed(made.lines(), number_of(on), order), expected, (made.lines(), order, on))


if __name__ == "__main__":
    unittest.main()
