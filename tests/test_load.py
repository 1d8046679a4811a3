"""Promise 1: load."""

import unittest

from helper import PASS, TOLD, arrange, ask, fault, fault_of_bytes, load, load_bytes, put, relay

GOOD = (0, 0)
ALL_SORTS = ["in a", "relay r at 1 up 5 down 6", "lamp l at 2", "open a 0 1", "close r 1 2"]


def inputs(count):
    return ["in i" + str(number) for number in range(count)]


def relays(count):
    return ["relay r" + str(number) + " at 1" for number in range(count)]


def lamps(count):
    return ["lamp l" + str(number) + " at 1" for number in range(count)]


def contacts(count):
    return ["close i0 0 1"] * count


class GoodTexts(unittest.TestCase):
    def test_empty_text(self):
        self.assertEqual(ask(load()), [[0, 0, 0]])

    def test_empty_text_takes_the_relays_away(self):
        told = ask(load("relay r at 0"), PASS, load(), TOLD, put(2 ** 32 - 1))
        self.assertEqual(told[2:], [[0, 0, 0], [0, 0], [0, 0]])

    def test_every_sort_of_line(self):
        self.assertEqual(ask(load(*ALL_SORTS)), [[0, 0, 0]])

    def test_each_sort_may_be_left_out(self):
        for line in ("in a", "relay r at 1", "lamp l at 1"):
            self.assertEqual(fault(line), GOOD, line)
        self.assertEqual(fault("in a", "close a 0 1"), GOOD)
        self.assertEqual(fault("relay a at 0", "open a 0 1"), GOOD)

    def test_delays(self):
        for delays in ("", " up 1", " down 1", " up 1 down 1", " up 65535", " down 65535", " up 65535 down 65535"):
            self.assertEqual(fault("relay r at 7" + delays), GOOD, delays)

    def test_delays_change_no_pass(self):
        for delays in ("", " up 7", " down 7", " up 7 down 9"):
            told = ask(load("relay r at 0" + delays, "relay s at 1" + delays, "close r 0 1"), PASS)
            self.assertEqual(told[1], [0, relay(0, 1)], delays)

    def test_nodes_at_the_edges(self):
        self.assertEqual(fault("in a", "relay r at 0", "relay s at 63", "lamp l at 0", "lamp m at 63",
                               "open a 0 63", "close a 62 63"), GOOD)

    def test_words_of_the_text_may_be_names(self):
        self.assertEqual(fault("in in", "in at", "relay up at 1 up 2", "relay relay at 1 down 3", "relay down at 1",
                               "lamp lamp at 2", "lamp open at 3", "open in 0 1", "close at 0 1", "open up 1 2"), GOOD)

    def test_names_of_twelve_signs(self):
        self.assertEqual(fault("in abcdefghijkl"), GOOD)
        self.assertEqual(fault("in z"), GOOD)
        self.assertEqual(fault("in a0123456789"), GOOD)
        self.assertEqual(fault("in a0z9a0z9a0z9"), GOOD)

    def test_as_many_as_may_be(self):
        self.assertEqual(fault(*inputs(16)), GOOD)
        self.assertEqual(fault(*relays(12)), GOOD)
        self.assertEqual(fault(*lamps(16)), GOOD)
        self.assertEqual(fault("in i0", *contacts(256)), GOOD)
        self.assertEqual(fault(*inputs(16), *relays(12), *lamps(16), *contacts(256)), GOOD)

    def test_state_is_zero_and_order_by_number(self):
        told = ask(load("in a", *relays(3)), put(1), arrange(2, 0, 1), load("in a", *relays(4)), TOLD)
        self.assertEqual(told[3:], [[0, 0, 0], [0, 0, 0, 1, 2, 3]])

    def test_same_text_again_sets_state_and_order_back(self):
        text = load("in a", *relays(3))
        told = ask(text, put(1), arrange(2, 0, 1), text, TOLD)
        self.assertEqual(told[4], [0, 0, 0, 1, 2])

    def test_a_scheme_takes_the_place_of_the_one_before(self):
        told = ask(load("relay r at 1", "relay s at 0"), load("relay s at 1", "in a"), PASS,
                   load("relay t at 0"), PASS, TOLD)
        self.assertEqual(told[1:], [[0, 2, 1], [0, relay(1)], [0, 0, 0], [0, relay(0)], [0, relay(0), 0]])


class NoShape(unittest.TestCase):
    WRONG = [
        "", " ", "x", "in", "in ", "relay", "lamp", "open", "close", "input a", "IN a", "inn a", "i a",
        "in a b", "in a ", " in a", "in  a", "in\ta", "in a\r",
        "in A", "in 1", "in 1a", "in a_b", "in a-b", "in aB", "in abcdefghijklm", "in \u00e4", "in a?",
        "relay r", "relay r at", "relay r at ", "relay r 5", "relay r on 5", "relay at 5", "relay r at 5 ",
        "relay r at 64", "relay r at 100", "relay r at 65536", "relay r at -1", "relay r at +1", "relay r at x",
        "relay r at 00", "relay r at 05", "relay r at 5.", "relay r at 1 2", "relay  r at 5", "relay r  at 5",
        "relay r at  5", "relay R at 5", "relay abcdefghijklm at 5", "relay 5 at 5",
        "relay r at 5 up", "relay r at 5 up ", "relay r at 5 down", "relay r at 5 up 1 down", "relay r at 5 up down 1",
        "relay r at 5 up 0", "relay r at 5 down 0", "relay r at 5 up 0 down 1", "relay r at 5 up 1 down 0",
        "relay r at 5 up 65536", "relay r at 5 down 65536", "relay r at 5 up 100000", "relay r at 5 up 1 down 65536",
        "relay r at 5 up 01", "relay r at 5 down 01", "relay r at 5 up -1", "relay r at 5 up x",
        "relay r at 5 down 1 up 1", "relay r at 5 up 1 up 1", "relay r at 5 down 1 down 1",
        "relay r at 5 up 1 down 1 up 1", "relay r at 5  up 1", "relay r at 5 up  1", "relay r at 5 up 1  down 1",
        "relay r at 5 up 1 ", "relay r at 5 up 1 down 1 ", "relay r at 5 over 1", "relay r at 5 1",
        "lamp l", "lamp l at", "lamp l at 64", "lamp l at 01", "lamp l at 5 up 1", "lamp l at 5 down 1",
        "lamp l at 5 ", "lamp L at 5", "lamp l on 5", "lamp  l at 5", "lamp abcdefghijklm at 5",
        "open a", "open a 0", "open a 0 1 2", "open a 0 1 ", "open 0 1", "open a at 0 1", "open a 0  1",
        "open a 1 1", "open a 0 0", "open a 63 63", "open a 1 0", "open a 63 62", "open a 10 9",
        "open a 0 64", "open a 64 65", "open a 00 1", "open a 0 01", "open a 00 01", "open a x 1", "open a 0 x",
        "open a -1 1", "open A 0 1", "open abcdefghijklm 0 1", "opens a 0 1", "opener a 0 1",
        "close a", "close a 0", "close a 0 1 2", "close a 1 1", "close a 1 0", "close a 0 64", "close a 0 01",
        "close  a 0 1", "close a 0 1 ", "close A 0 1", "closer a 0 1",
    ]

    def test_at_the_first_line(self):
        for line in self.WRONG:
            self.assertEqual(fault(line), (1, 0), repr(line))
            self.assertEqual(fault(line, "in b"), (1, 0), repr(line))

    def test_at_a_later_line(self):
        for line in self.WRONG:
            self.assertEqual(fault("in a", "in b", line, "in c"), (1, 2), repr(line))

    def test_first_of_two(self):
        self.assertEqual(fault("in a", "x", "in b", "y"), (1, 1))

    def test_numbers_of_very_many_digits(self):
        for digits in ("1" * 5000, "0" * 5000, "9" * 19000):
            self.assertEqual(fault("relay r at " + digits), (1, 0))
            self.assertEqual(fault("relay r at 5 up " + digits), (1, 0))
            self.assertEqual(fault("in a", "open a 0 " + digits), (1, 1))

    def test_very_long_names(self):
        self.assertEqual(fault("in " + "a" * 19000), (1, 0))

    def test_every_byte_that_no_name_has(self):
        good = b"abcdefghijklmnopqrstuvwxyz0123456789"
        for byte in range(256):
            expected = GOOD if byte in good else (1, 1) if byte == 10 else (1, 0)
            self.assertEqual(fault_of_bytes(b"in a" + bytes([byte]) + b"b\n"), expected, byte)

    def test_every_byte_that_no_name_begins_with(self):
        for byte in range(256):
            expected = GOOD if 97 <= byte <= 122 else (1, 0)
            self.assertEqual(fault_of_bytes(b"in " + bytes([byte]) + b"\n"), expected, byte)

    def test_every_byte_as_a_node(self):
        for byte in range(256):
            expected = GOOD if 48 <= byte <= 57 else (1, 0)
            self.assertEqual(fault_of_bytes(b"relay r at " + bytes([byte]) + b"\n"), expected, byte)

    def test_every_node(self):
        for node in range(130):
            self.assertEqual(fault("lamp l at " + str(node)), GOOD if node < 64 else (1, 0), node)

    def test_behind_the_last_byte_10(self):
        self.assertEqual(fault_of_bytes(b"in a"), (1, 0))
        self.assertEqual(fault_of_bytes(b"in a\nin b"), (1, 1))
        self.assertEqual(fault_of_bytes(b"in a\n "), (1, 1))
        self.assertEqual(fault_of_bytes(b"in a\nin b\nx"), (1, 2))
        self.assertEqual(fault_of_bytes(b"x\nin b"), (1, 0))

    def test_empty_lines(self):
        self.assertEqual(fault_of_bytes(b"\n"), (1, 0))
        self.assertEqual(fault_of_bytes(b"\n\n"), (1, 0))
        self.assertEqual(fault_of_bytes(b"in a\n\n"), (1, 1))
        self.assertEqual(fault_of_bytes(b"in a\n\nin b\n"), (1, 1))

    def test_other_bytes_end_no_line(self):
        for byte in (0, 11, 12, 13, 28, 29, 30, 133):
            self.assertEqual(fault_of_bytes(b"in a" + bytes([byte]) + b"in b\n"), (1, 0), byte)


class LaterKinds(unittest.TestCase):
    def test_behind_a_later_sort(self):
        sorts = ["in a", "relay r at 1", "lamp l at 1", "close a 0 1"]
        for later in range(1, 4):
            for sooner in range(later):
                self.assertEqual(fault(sorts[later], sorts[sooner]), (2, 1), (later, sooner))

    def test_late_at_a_later_line(self):
        self.assertEqual(fault("in a", "relay r at 1", "lamp l at 1", "relay s at 1", "in b"), (2, 3))
        self.assertEqual(fault("in a", "relay r at 1", "lamp l at 1", "in b"), (2, 3))
        self.assertEqual(fault("in a", "open a 0 1", "close a 0 1", "lamp l at 1"), (2, 3))

    def test_openers_and_closers_are_one_sort(self):
        self.assertEqual(fault("in a", "close a 0 1", "open a 0 1", "close a 0 1"), GOOD)

    def test_one_too_many(self):
        self.assertEqual(fault(*inputs(17)), (3, 16))
        self.assertEqual(fault(*relays(13)), (3, 12))
        self.assertEqual(fault(*lamps(17)), (3, 16))
        self.assertEqual(fault("in i0", *contacts(257)), (3, 257))

    def test_many_too_many(self):
        self.assertEqual(fault(*inputs(19)), (3, 16))
        self.assertEqual(fault("in i0", *contacts(300)), (3, 257))

    def test_one_too_many_behind_other_sorts(self):
        self.assertEqual(fault(*inputs(3), *relays(13), *lamps(17)), (3, 15))
        self.assertEqual(fault(*inputs(16), *relays(12), *lamps(17)), (3, 44))
        self.assertEqual(fault(*inputs(16), *relays(12), *lamps(16), *contacts(257)), (3, 300))

    def test_name_given_before(self):
        self.assertEqual(fault("in a", "in a"), (4, 1))
        self.assertEqual(fault("in a", "relay a at 1"), (4, 1))
        self.assertEqual(fault("in a", "lamp a at 1"), (4, 1))
        self.assertEqual(fault("relay a at 1", "relay a at 2"), (4, 1))
        self.assertEqual(fault("relay a at 1", "lamp a at 1"), (4, 1))
        self.assertEqual(fault("lamp a at 1", "lamp a at 2"), (4, 1))
        self.assertEqual(fault("in a", "in b", "relay c at 1", "lamp b at 1", "lamp a at 1"), (4, 3))

    def test_contacts_give_no_name(self):
        self.assertEqual(fault("in a", "open a 0 1", "open a 0 1"), GOOD)

    def test_contact_without_a_variable(self):
        self.assertEqual(fault("open a 0 1"), (5, 0))
        self.assertEqual(fault("close a 0 1"), (5, 0))
        self.assertEqual(fault("in a", "open b 0 1"), (5, 1))
        self.assertEqual(fault("in a", "relay r at 1", "open a 0 1", "close r 0 1", "close s 0 1", "open t 0 1"), (5, 4))
        self.assertEqual(fault("in ab", "open a 0 1"), (5, 1))

    def test_contact_that_names_a_lamp(self):
        self.assertEqual(fault("in a", "lamp l at 1", "close a 0 1", "close l 0 1"), (5, 3))
        self.assertEqual(fault("lamp l at 1", "open l 0 1"), (5, 1))

    def test_the_least_kind_is_told(self):
        unknown = "open nobody 0 1"
        self.assertEqual(fault(unknown, "x"), (1, 1))
        self.assertEqual(fault(unknown, "in a"), (2, 1))
        self.assertEqual(fault("in i0", *[unknown] * 257), (3, 257))
        self.assertEqual(fault("in a", "in a", unknown), (4, 1))
        self.assertEqual(fault("in a", "in a", "x"), (1, 2))
        self.assertEqual(fault("in a", "in a", "lamp l at 1", "in b"), (2, 3))
        self.assertEqual(fault("in a", "in a", *inputs(15)), (3, 16))
        self.assertEqual(fault(*inputs(17), "x"), (1, 17))
        self.assertEqual(fault(*inputs(17), "relay r at 1", "in b"), (2, 18))
        self.assertEqual(fault("relay r at 1", "in a", "x"), (1, 2))
        self.assertEqual(fault_of_bytes(b"relay r at 1\nin a\nin b"), (1, 2))


class LongTexts(unittest.TestCase):
    def test_20000_bytes(self):
        text = b"in a\n" * 4000
        self.assertEqual(len(text), 20000)
        self.assertEqual(ask(load_bytes(text)), [[0, 3, 16]])

    def test_20001_bytes(self):
        self.assertEqual(ask(load_bytes(b"in a\n" * 4000 + b"\n")), [[-1]])
        self.assertEqual(ask(load_bytes(b"x" * 20001)), [[-1]])

    def test_20100_bytes(self):
        self.assertEqual(ask(load_bytes(b"in a\n" * 4020)), [[-1]])

    def test_20000_empty_lines(self):
        self.assertEqual(ask(load_bytes(b"\n" * 20000)), [[0, 1, 0]])

    def test_last_byte_of_20000(self):
        self.assertEqual(ask(load_bytes(b"in a\n" * 3999 + b"in a ")), [[0, 1, 3999]])


class ObjectStays(unittest.TestCase):
    BEFORE = (load("in a", "in b", "relay r at 1", "relay s at 2", "close b 0 1", "close r 1 2"),
              put(3), arrange(1, 0))

    def check(self, wrong, answer):
        told = ask(*self.BEFORE, wrong, TOLD, PASS, PASS, put(2 ** 32 - 1))
        self.assertEqual(told[3:], [answer, [0, 3, 1, 0], [0, 3 | relay(0)], [0, 3 | relay(0, 1)], [0, 3 | relay(0, 1)]])

    def test_behind_each_kind_of_fault(self):
        self.check(load("in c", "x"), [0, 1, 1])
        self.check(load("relay r at 0", "in c"), [0, 2, 1])
        self.check(load(*relays(13)), [0, 3, 12])
        self.check(load("in c", "relay c at 0"), [0, 4, 1])
        self.check(load("relay r at 0", "open c 0 1"), [0, 5, 1])

    def test_behind_a_refusal(self):
        self.check(load_bytes(b"in a\n" * 4000 + b"\n"), [-1])

    def test_faults_on_a_new_object(self):
        self.assertEqual(ask(load("x"), TOLD, put(7))[1:], [[0, 0], [0, 0]])


if __name__ == "__main__":
    unittest.main()
