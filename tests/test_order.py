"""Promise 10: order."""

import unittest

from helper import ORDER, TOLD, arrange, ask, inputs, load, made_up, put, relay, relays


def order_of(lines):
    return ask(load(*lines), ORDER)[1]


def told_plainly(made):
    """The order told, found place by place; None if there is none."""
    needs = [set(made.hangs_on(number)) for number in made.numbers]
    order = []
    while len(order) < len(needs):
        free = [number for number in made.numbers if number not in order and needs[number] <= set(order)]
        if not free:
            return None
        order.append(min(free))
    return order


class Order(unittest.TestCase):
    def test_no_relays(self):
        self.assertEqual(ask(ORDER, TOLD), [[0], [0, 0]])
        self.assertEqual(order_of(["in a", "lamp l at 1", "close a 0 1"]), [0])

    def test_that_hang_on_none(self):
        self.assertEqual(order_of(["relay r at 5"]), [0, 0])
        self.assertEqual(order_of(["in a", *relays(3, 1, 0, 2), "close a 0 1", "open a 0 3"]), [0, 0, 1, 2, 3])
        self.assertEqual(order_of(relays(*reversed(range(12)))), [0, *range(12)])

    def test_a_chain_by_the_numbers(self):
        self.assertEqual(order_of([*relays(1, 2, 3), "close r0 0 2", "open r1 0 3"]), [0, 0, 1, 2])

    def test_a_chain_against_the_numbers(self):
        steps = ["close r" + str(k + 1) + " 0 " + str(k + 1) for k in range(5)]
        self.assertEqual(order_of([*relays(1, 2, 3, 4, 5, 6), *steps]), [0, 5, 4, 3, 2, 1, 0])

    def test_the_least_at_each_place(self):
        # 0 hangs on 3: it comes as soon as 3 is told, ahead of 4.
        self.assertEqual(order_of([*relays(1, 2, 3, 4, 5), "close r3 0 1"]), [0, 1, 2, 3, 0, 4])
        # 1 hangs on 4, 0 on 1.
        self.assertEqual(order_of([*relays(1, 2, 3, 4, 5, 6), "close r4 0 2", "close r1 0 1"]), [0, 2, 3, 4, 1, 0, 5])
        self.assertEqual(order_of([*relays(1, 2, 3), "close r2 0 1", "open r2 0 2"]), [0, 2, 0, 1])

    def test_on_several(self):
        self.assertEqual(order_of([*relays(2, 3, 4, 5), "close r1 0 1", "close r3 1 2"]), [0, 1, 2, 3, 0])

    def test_what_cancels_does_not_count(self):
        lines = relays(1, 2) + ["close r0 0 1", "open r0 0 1", "close r0 0 2"]
        self.assertEqual(order_of(lines), [0, 0, 1])
        lines = relays(1, 0) + ["open r1 0 1", "open r0 1 2"]
        self.assertEqual(order_of(lines), [0, 1, 0])

    def test_state_and_order_do_not_count(self):
        told = ask(load(*relays(1, 2, 3), "close r2 0 1"), put(relay(1)), arrange(0, 2, 1), ORDER, TOLD)
        self.assertEqual(told[3:], [[0, 1, 2, 0], [0, relay(1), 0, 2, 1]])


class NoOrder(unittest.TestCase):
    def test_a_relay_that_hangs_on_itself(self):
        for kind in ("open", "close"):
            self.assertEqual(order_of(["relay r at 1", kind + " r 0 1"]), [-5])
            self.assertEqual(order_of([*relays(1, 2, 3), kind + " r1 0 2"]), [-5])
            self.assertEqual(order_of([*relays(1, 2, 3), kind + " r2 0 3"]), [-5])

    def test_two_that_hang_on_each_other(self):
        self.assertEqual(order_of([*relays(1, 2), "close r1 0 1", "close r0 0 2"]), [-5])
        self.assertEqual(order_of([*relays(9, 1, 9, 2), "close r3 0 1", "open r1 0 2"]), [-5])

    def test_three_in_a_circle(self):
        self.assertEqual(order_of([*relays(1, 2, 3), "close r1 0 1", "close r2 0 2", "close r0 0 3"]), [-5])

    def test_one_that_waits_for_a_circle(self):
        self.assertEqual(order_of([*relays(1, 2), "close r1 0 1", "close r1 0 2"]), [-5])

    def test_the_object_stays(self):
        told = ask(load(*relays(1, 2), "close r0 0 1"), put(relay(1)), arrange(1, 0), ORDER, TOLD)
        self.assertEqual(told[3:], [[-5], [0, relay(1), 1, 0]])


class Size(unittest.TestCase):
    @staticmethod
    def used(many, name="i"):
        return ["open " + name + str(k) + " 62 63" for k in range(many)]

    def test_six_used(self):
        for inputs_used in range(7):
            lines = [*inputs(16), *relays(*[1] * 12), *self.used(inputs_used), *self.used(6 - inputs_used, "r")]
            self.assertEqual(order_of(lines), [0, *range(12)], inputs_used)

    def test_six_used_of_twelve_in_a_chain(self):
        steps = ["close r" + str(11 - k) + " 0 " + str(11 - k) for k in range(6)]
        lines = [*relays(*range(1, 13)), *steps]
        # The relay at node n hangs on relay n: each of 5 to 10 on the one behind it.
        self.assertEqual(order_of(lines), [0, 0, 1, 2, 3, 4, 11, 10, 9, 8, 7, 6, 5])

    def test_seven_used(self):
        for inputs_used in range(8):
            lines = [*inputs(16), *relays(*[1] * 12), *self.used(inputs_used), *self.used(7 - inputs_used, "r")]
            self.assertEqual(order_of(lines), [-9], inputs_used)

    def test_used_without_relays(self):
        self.assertEqual(order_of([*inputs(16), *self.used(6)]), [0])
        self.assertEqual(order_of([*inputs(16), *self.used(7)]), [-9])

    def test_too_many_used_comes_ahead(self):
        self.assertEqual(order_of([*inputs(5), *relays(1), *self.used(5), "open r0 0 1"]), [-5])
        self.assertEqual(order_of([*inputs(6), *relays(1), *self.used(6), "open r0 0 1"]), [-9])

    def test_the_object_stays(self):
        told = ask(load(*inputs(7), *relays(1, 2), *self.used(7)), put(relay(1) + 3), arrange(1, 0), ORDER, TOLD)
        self.assertEqual(told[3:], [[-9], [0, relay(1) + 3, 1, 0]])


class AgainstAPlainReckoning(unittest.TestCase):
    def test_made_up_schemes(self):
        told = 0
        for many, shape in ((200, (7, 1, 3, 6)), (40, (9, 1, 5, 9))):
            for made in made_up(many, *shape, seed=11):
                order = told_plainly(made)
                self.assertEqual(order_of(made.lines()), [-5] if order is None else [0, *order], made.lines())
                told += order is not None
        self.assertGreater(told, 50)


if __name__ == "__main__":
    unittest.main()
