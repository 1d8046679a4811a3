"""Promise 9: hang."""

import unittest

from helper import PASS, TOLD, arrange, ask, hang, inputs, load, made_up, put, relay, relays


def hung(lines, j):
    return ask(load(*lines), hang(j))[1]


def used(many, name="i"):
    """A contact for each of so many inputs or relays, on no way to a coil."""
    return ["close " + name + str(k) + " 62 63" for k in range(many)]


class Hang(unittest.TestCase):
    def test_on_none(self):
        self.assertEqual(hung(["relay r at 1"], 0), [0])
        self.assertEqual(hung(["in a", "relay r at 1", "relay s at 2", "close a 0 1", "close r 0 2"], 0), [0])

    def test_on_another(self):
        for kind in ("open", "close"):
            lines = ["relay r at 1", "relay s at 2", kind + " s 0 1"]
            self.assertEqual(hung(lines, 0), [0, 1])
            self.assertEqual(hung(lines, 1), [0])
            lines = ["relay r at 1", "relay s at 2", kind + " r 0 2"]
            self.assertEqual(hung(lines, 0), [0])
            self.assertEqual(hung(lines, 1), [0, 0])

    def test_on_itself(self):
        for kind in ("open", "close"):
            lines = ["relay r at 1", "relay s at 2", kind + " s 0 2"]
            self.assertEqual(hung(lines, 1), [0, 1])
            self.assertEqual(hung(lines, 0), [0])

    def test_on_several_rising(self):
        lines = [*relays(3, 9, 9, 9, 9), "close r4 0 1", "open r2 1 2", "close r0 2 3"]
        self.assertEqual(hung(lines, 0), [0, 0, 2, 4])
        lines = [*relays(3, 9, 9, 9, 9), "close r4 0 3", "open r2 0 3", "close r0 0 3"]
        self.assertEqual(hung(lines, 0), [0, 0, 2, 4])

    def test_on_the_last_of_twelve(self):
        lines = [*relays(1, *[2] * 11), "close r11 0 1", "close r10 0 1"]
        self.assertEqual(hung(lines, 0), [0, 10, 11])
        self.assertEqual(hung([*relays(*[2] * 11, 1), "close r11 0 1", "close r10 0 1"], 11), [0, 10, 11])

    def test_inputs_are_not_told(self):
        lines = ["in a", "in b", "relay r at 2", "relay s at 1", "close a 0 1", "open s 1 2", "close b 0 2"]
        self.assertEqual(hung(lines, 0), [0, 1])
        self.assertEqual(hung(lines, 1), [0, 1])

    def test_where_an_input_is_on_alone(self):
        self.assertEqual(hung(["in a", "relay r at 2", "relay s at 9", "close a 0 1", "close s 1 2"], 0), [0, 1])
        self.assertEqual(hung(["in a", "relay r at 2", "relay s at 9", "open a 0 1", "open s 1 2"], 0), [0, 1])

    def test_in_one_state_of_all(self):
        lines = [*inputs(3), *relays(6, 9, 9), "close i0 0 1", "open i1 1 2", "close i2 2 3", "open r1 3 4", "close r2 4 6"]
        self.assertEqual(hung(lines, 0), [0, 1, 2])

    def test_over_nodes_in_either_direction(self):
        lines = ["in a", "relay r at 1", "relay s at 9", "close a 0 5", "close s 3 5", "close a 1 3"]
        self.assertEqual(hung(lines, 0), [0, 1])

    def test_over_a_bridge(self):
        lines = ["in a", "in b", "relay r at 3", "relay s at 4", "relay t at 9",
                 "close a 0 3", "close b 0 4", "close t 3 4"]
        self.assertEqual([hung(lines, j) for j in range(3)], [[0, 2], [0, 2], [0]])

    def test_state_and_order_do_not_count(self):
        scheme = load("in a", "relay r at 2", "relay s at 1", "close a 0 1", "close s 1 2")
        told = ask(scheme, put(relay(0, 1) + 1), arrange(1, 0), hang(0), hang(1), TOLD, PASS, hang(0))
        self.assertEqual(told[3:6], [[0, 1], [0], [0, relay(0, 1) + 1, 1, 0]])
        self.assertEqual(told[7], [0, 1])

    def test_lamps_do_not_count(self):
        self.assertEqual(hung(["relay r at 1", "lamp l at 1", "lamp m at 0", "close r 0 1"], 0), [0, 0])


class HangsOnNone(unittest.TestCase):
    def test_contacts_on_no_way_to_its_coil(self):
        for contact in ("close s 2 3", "close s 1 2", "close s 0 2"):
            self.assertEqual(hung(["relay r at 1", "relay s at 9", contact], 0), [0], contact)

    def test_beside_its_way(self):
        lines = ["in a", "relay r at 2", "relay s at 9", "close a 0 1", "close a 1 2", "close s 1 3", "close s 3 4"]
        self.assertEqual(hung(lines, 0), [0])

    def test_two_ways_one_of_which_always_lets_through(self):
        self.assertEqual(hung(["relay r at 1", "relay s at 9", "close s 0 1", "open s 0 1"], 0), [0])
        lines = ["in a", "relay r at 1", "relay s at 9", "close s 0 1", "close a 0 1", "open a 0 1"]
        self.assertEqual(hung(lines, 0), [0])

    def test_a_way_that_never_lets_through(self):
        self.assertEqual(hung(["relay r at 2", "relay s at 9", "close s 0 1", "open s 1 2"], 0), [0])
        lines = ["in a", "relay r at 3", "relay s at 9", "close s 0 1", "close a 1 2", "open a 2 3"]
        self.assertEqual(hung(lines, 0), [0])

    def test_ways_that_cancel_for_one_of_two(self):
        # Whatever s is, there is a way just where t is on.
        lines = ["relay r at 3", "relay s at 9", "relay t at 9", "close s 0 1", "open s 0 1", "close t 1 3"]
        self.assertEqual(hung(lines, 0), [0, 2])

    def test_a_wider_way_beside_it(self):
        lines = ["in a", "relay r at 2", "relay s at 9", "close a 0 2", "close a 0 1", "close s 1 2"]
        self.assertEqual(hung(lines, 0), [0])

    def test_at_the_rail(self):
        lines = ["relay r at 0", "relay s at 9", "close s 0 1", "open r 0 2", "close s 1 2"]
        self.assertEqual(hung(lines, 0), [0])


class Refused(unittest.TestCase):
    WRONG = (-1, 2, 3, 12, 16, 17, -2, -16, 4294967295, 4294967296, 8589934591, -4294967296)

    def test_no_such_relay(self):
        for j in self.WRONG:
            self.assertEqual(hung(["in a", "relay r at 1", "relay s at 2", "close r 0 2"], j), [-1], j)

    def test_no_relays(self):
        for j in (0, 1, *self.WRONG):
            self.assertEqual(ask(hang(j), TOLD), [[-1], [0, 0]], j)
            self.assertEqual(hung(["in a", "lamp l at 1"], j), [-1], j)

    def test_first_and_last_of_twelve(self):
        for j in (-1, 12):
            self.assertEqual(hung(relays(*[1] * 12), j), [-1])
        for j in (0, 11):
            self.assertEqual(hung(relays(*[1] * 12), j), [0])

    def test_six_used(self):
        for inputs_used in range(7):
            lines = [*inputs(16), *relays(*[1] * 12), *used(inputs_used), *used(6 - inputs_used, "r")]
            self.assertEqual(hung(lines, 11), [0], inputs_used)

    def test_seven_used(self):
        for inputs_used in range(8):
            lines = [*inputs(16), *relays(*[1] * 12), *used(inputs_used), *used(7 - inputs_used, "r")]
            self.assertEqual(hung(lines, 11), [-9], inputs_used)
        self.assertEqual(hung([*inputs(16), *relays(*[1] * 12), *used(16), *used(12, "r")], 0), [-9])

    def test_used_twice_counts_once(self):
        twice = ["open i" + str(k) + " 3 4" for k in range(6)]
        self.assertEqual(hung([*inputs(6), *relays(1), *used(6), *twice], 0), [0])
        self.assertEqual(hung([*inputs(6), *relays(1), *used(6), *twice, "close r0 0 1"], 0), [-9])

    def test_all_six_matter(self):
        steps = ["close r" + str(k) + " " + str(k) + " " + str(k + 1) for k in range(6)]
        self.assertEqual(hung([*inputs(16), *relays(*[60] * 11, 6), *steps], 11), [0, 0, 1, 2, 3, 4, 5])

    def test_no_such_relay_comes_ahead(self):
        for j in self.WRONG:
            self.assertEqual(hung([*inputs(7), *relays(1, 1), *used(7)], j), [-1], j)

    def test_the_object_stays(self):
        told = ask(load(*inputs(7), *relays(1, 1), *used(7)), put(relay(1) + 5), arrange(1, 0), hang(9), hang(0), TOLD)
        self.assertEqual(told[3:], [[-1], [-9], [0, relay(1) + 5, 1, 0]])


class AgainstAPlainReckoning(unittest.TestCase):
    def test_all_relays(self):
        for many, shape in ((150, (9, 1, 3, 5)), (25, (12, 2, 4, 7))):
            for made in made_up(many, *shape, seed=10):
                for j in made.numbers:
                    self.assertEqual(hung(made.lines(), j), [0, *made.hangs_on(j)], (made.lines(), j))


if __name__ == "__main__":
    unittest.main()
