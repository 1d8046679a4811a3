"""Promise 11: sure."""

import unittest

from helper import SURE, TOLD, Made, arrange, ask, inputs, load, made_up, put, relay, relays


def sure(*lines):
    return ask(load(*lines), SURE)[1]


class AllSure(unittest.TestCase):
    def test_new_object(self):
        self.assertEqual(ask(SURE, TOLD), [[0, 1], [0, 0]])

    def test_no_relays(self):
        self.assertEqual(sure("in a", "in b", "lamp l at 1", "close a 0 1"), [0, 1])

    def test_without_contacts(self):
        self.assertEqual(sure("in a", "relay r at 1", "relay s at 0", "lamp l at 0"), [0, 1])

    def test_a_chain(self):
        self.assertEqual(sure("in a", "relay r at 1", "relay s at 2", "relay t at 3",
                              "close a 0 1", "open r 0 2", "close s 0 3"), [0, 1])

    def test_a_relay_that_holds_itself(self):
        self.assertEqual(sure("relay r at 1", "close r 0 1"), [0, 1])
        self.assertEqual(sure("in a", "relay r at 1", "close a 0 1", "close r 0 1"), [0, 1])


class Rings(unittest.TestCase):
    def test_a_relay_that_breaks_itself(self):
        self.assertEqual(sure("relay r at 1", "open r 0 1"), [0, 0, 0, 1])

    def test_just_with_inputs_on(self):
        self.assertEqual(sure("in a", "relay r at 2", "close a 0 1", "open r 1 2"), [0, 0, 1, 1])
        self.assertEqual(sure("in a", "in b", "relay r at 2", "close b 0 1", "open r 1 2"), [0, 0, 2, 1])
        self.assertEqual(sure("in a", "in b", "relay r at 3", "close a 0 1", "close b 1 2", "open r 2 3"), [0, 0, 3, 1])

    def test_two_relays(self):
        # s follows r, r turns against s.
        self.assertEqual(sure("relay r at 1", "relay s at 2", "open s 0 1", "close r 0 2"), [0, 0, 0, 1])

    def test_just_with_a_relay_on(self):
        # s holds itself; while it is on, r breaks itself.
        self.assertEqual(sure("relay r at 2", "relay s at 3", "close s 0 1", "open r 1 2", "close s 0 3"),
                         [0, 0, relay(1), 1])

    def test_with_inputs_and_relays_on(self):
        self.assertEqual(sure("in a", "in b", "relay r at 3", "relay s at 4",
                              "close s 0 1", "close b 1 2", "open r 2 3", "close s 0 4"), [0, 0, relay(1) + 2, 1])
        # An input at the least place weighs less than a relay.
        self.assertEqual(sure(*inputs(5), *relays(3, 4), "close r0 0 1", "open r1 1 4", "close i4 0 2", "open r1 2 4",
                              "close r0 0 3"), [0, 0, 16, 1])

    def test_one_that_is_on_no_ring_itself(self):
        # s goes on and stays so, then r breaks itself.
        self.assertEqual(sure("relay r at 2", "relay s at 0", "close s 0 1", "open r 1 2"), [0, 0, 0, 1])

    def test_a_ring_that_may_come_besides_a_rest(self):
        # From r and s: if t goes on in time it holds itself, and breaks r from then on; else all comes to a rest.
        lines = ("relay r at 4", "relay s at 9", "relay t at 2", "close s 0 1", "close s 1 2", "close t 0 2",
                 "close t 0 3", "open r 3 4")
        self.assertEqual(sure(*lines), [0, 0, relay(1), 1])


class SeveralRests(unittest.TestCase):
    # r goes off; if s goes on ahead of that, or at once, it holds itself.
    RACE = ("relay r at 9", "relay s at 1", "close r 0 1", "close s 0 1")

    def test_a_race(self):
        self.assertEqual(sure(*self.RACE), [0, 0, relay(0), 2])

    def test_a_race_with_inputs(self):
        lines = ("in a", "in b", "relay r at 9", "relay s at 2", "close b 0 1", "close r 1 2", "close s 0 2")
        self.assertEqual(sure(*lines), [0, 0, relay(0) + 2, 2])

    def test_at_other_relays(self):
        lines = ("relay r at 1", "relay s at 9", "relay t at 2", "close t 0 1", "close r 0 1")
        self.assertEqual(sure(*lines), [0, 0, relay(2), 2])

    def test_a_ring_at_a_greater_state(self):
        # The state of the race is less than those in which t breaks itself.
        lines = ("relay r at 9", "relay s at 1", "relay t at 4", "relay u at 5", "close r 0 1", "close s 0 1",
                 "close u 0 3", "open t 3 4", "close u 0 5")
        self.assertEqual(sure(*lines), [0, 0, relay(0), 2])

    def test_a_ring_at_a_lesser_state(self):
        lines = ("in a", "relay r at 9", "relay s at 1", "relay t at 4", "close r 0 1", "close s 0 1",
                 "close a 0 3", "open t 3 4")
        self.assertEqual(sure(*lines), [0, 0, 1, 1])


class SeveralAtOnce(unittest.TestCase):
    def test_a_ring_besides_rests(self):
        # One by one, one of the two goes on and stays so; both at once go on and off for ever.
        self.assertEqual(sure("relay r at 1", "relay s at 2", "open s 0 1", "open r 0 2"), [0, 0, 0, 1])

    def assert_shown_by(self, most, made, state, why):
        """Moves of so many relays at once tell that the state is not sure; moves of fewer tell that all are."""
        self.assertEqual(made.unsure(most - 1), {})
        self.assertEqual(sure(*made.lines()), [0, 0, state, why])

    def test_a_ring_that_single_moves_do_not_show(self):
        # Relays 0 and 2 change places as long as 1 is on: from 0, 1 to 1, 2 and back, two moving at once.
        made = Made(0, [1, 9, 3], [(0, 18, 0, 1), (0, 16, 0, 2), (0, 17, 2, 3)])
        self.assert_shown_by(2, made, relay(0, 1), 1)

    def test_rests_that_single_moves_do_not_show(self):
        # From 0, 1 one by one all go off; if 1 goes off while 2 goes on, 2 holds itself.
        made = Made(0, [9, 3, 6], [(0, 17, 0, 2), (0, 18, 2, 3),
                                   (1, 17, 0, 4), (0, 18, 4, 6), (0, 16, 0, 5), (0, 17, 5, 6)])
        self.assert_shown_by(2, made, relay(0, 1), 2)

    def test_a_ring_that_three_at_once_show(self):
        # From 0 to 1, 2 and back.
        made = Made(0, [1, 2, 4], [(0, 18, 0, 1), (0, 16, 0, 2), (1, 17, 0, 4), (0, 16, 0, 3), (0, 18, 3, 4)])
        self.assert_shown_by(3, made, relay(0), 1)

    def test_rests_that_three_at_once_show(self):
        made = Made(0, [2, 4, 6], [(1, 18, 0, 2), (0, 16, 0, 1), (1, 17, 1, 2), (0, 16, 0, 3), (0, 17, 3, 4),
                                   (0, 17, 0, 6), (0, 16, 0, 5), (0, 18, 5, 6)])
        self.assert_shown_by(3, made, relay(1), 2)


class Size(unittest.TestCase):
    def test_greatest_and_too_great(self):
        for many in range(7):
            for number in range(17):
                answered = many <= 5 and many + number <= 8
                told = sure(*inputs(number), *relays(*[0] * many))
                self.assertEqual(told, [0, 1] if answered else [-9], (number, many))
        self.assertEqual(sure(*relays(*[0] * 12)), [-9])
        self.assertEqual(sure(*inputs(16), *relays(*[0] * 12)), [-9])

    def test_eight_inputs(self):
        self.assertEqual(sure(*inputs(8), "close i0 0 1"), [0, 1])

    def test_five_relays_and_three_inputs(self):
        # All inputs on, and all relays but the last, which hold themselves: then the last breaks itself.
        holds = [" ".join(["close", "r" + str(k), "0", str(k + 1)]) for k in range(4)]
        names = ["i0", "i1", "i2", "r0", "r1", "r2", "r3"]
        nodes = [0, *range(10, 17)]
        steps = [" ".join(["close", name, str(nodes[k]), str(nodes[k + 1])]) for k, name in enumerate(names)]
        lines = [*inputs(3), *relays(1, 2, 3, 4, 20), *holds, *steps, "open r4 16 20"]
        self.assertEqual(sure(*lines), [0, 0, relay(0, 1, 2, 3) + 7, 1])

    def test_too_great_with_a_ring(self):
        self.assertEqual(sure(*relays(*[1] * 6), "open r0 0 1"), [-9])
        self.assertEqual(sure(*inputs(8), *relays(1), "open r0 0 1"), [-9])

    def test_lamps_do_not_count(self):
        lamps = ["lamp l" + str(k) + " at 1" for k in range(16)]
        self.assertEqual(sure(*inputs(3), *relays(*[0] * 5), *lamps), [0, 1])


class LeftAlone(unittest.TestCase):
    def test_the_object_stays(self):
        scheme = load("in a", "relay r at 1", "relay s at 2", "open s 0 1")
        told = ask(scheme, put(relay(1) + 1), arrange(1, 0), SURE, TOLD, SURE)
        self.assertEqual(told[3:], [[0, 1], [0, relay(1) + 1, 1, 0], [0, 1]])

    def test_the_objects_state_does_not_count(self):
        scheme = load(*SeveralRests.RACE)
        for state in range(4):
            told = ask(scheme, put(state << 16), SURE, TOLD)
            self.assertEqual(told[2:], [[0, 0, relay(0), 2], [0, state << 16, 0, 1]])

    def test_a_refusal_leaves_the_object(self):
        told = ask(load(*relays(*[0] * 6)), put(relay(5)), SURE, TOLD)
        self.assertEqual(told[2:], [[-9], [0, relay(5), *range(6)]])


class AgainstAPlainReckoning(unittest.TestCase):
    def test_made_up_schemes(self):
        whys = []
        for many, shape in ((250, (8, 1, 3, 5)), (40, (9, 0, 4, 6)), (6, (12, 0, 5, 6))):
            for made in made_up(many, *shape, seed=6):
                unsure = made.unsure()
                first = min(unsure, default=None)
                answer = [0, 1] if first is None else [0, 0, first, unsure[first]]
                self.assertEqual(sure(*made.lines()), answer, made.lines())
                whys.append(0 if first is None else unsure[first])
        self.assertTrue(all(whys.count(why) > 5 for why in (0, 1, 2)), whys)


if __name__ == "__main__":
    unittest.main()
