"""The interface: how calls and answers stand in their lists, and what is left alone."""

import ast
import contextlib
import io
import pathlib
import unittest

import rungpasses
from helper import ORDER, PASS, ROUND, RUNGS, SOME, SURE, TOLD, UNTIL, arrange, hang, load, put, relay
from rungpasses.scheme import answers

SCHEME = load("in a", "relay r at 1", "relay s at 2", "close a 0 1", "close r 0 2")
FIRST = SCHEME + put(1) + arrange(1, 0) + RUNGS + PASS + put(-1) + TOLD + arrange(1) + load("x")
MANY = FIRST + UNTIL + ROUND + hang(1) + hang(2) + ORDER + SURE + SOME + TOLD


class Watched(list):
    """A list that may be read alone."""

    def refuse(self, *arguments):
        raise AssertionError("the list handed in is changed")

    append = extend = insert = pop = remove = clear = reverse = sort = refuse
    __setitem__ = __delitem__ = __iadd__ = __imul__ = refuse


class Lists(unittest.TestCase):
    def test_each_call_alone(self):
        self.assertEqual(answers([1, 0]), [3, 0, 0, 0])
        self.assertEqual(answers([2, 5]), [2, 0, 0])
        self.assertEqual(answers([3, 0]), [1, 0])
        self.assertEqual(answers([4]), [2, 0, 0])
        self.assertEqual(answers([5]), [2, 0, 0])
        self.assertEqual(answers([6]), [1, 0])
        self.assertEqual(answers([7]), [3, 0, 0, 0])
        self.assertEqual(answers([8]), [1, -5])
        self.assertEqual(answers([9, 0]), [1, -1])
        self.assertEqual(answers([10]), [1, 0])
        self.assertEqual(answers([11]), [2, 0, 1])
        self.assertEqual(answers([12]), [3, 0, 0, 0])

    def test_refusals_are_their_number_alone(self):
        self.assertEqual(answers([2, -1]), [1, -1])
        self.assertEqual(answers([3, 1, 0]), [1, -1])
        self.assertEqual(answers([1, 20001] + [10] * 20001), [1, -1])

    def test_a_fault_is_no_refusal(self):
        self.assertEqual(answers([1, 1, 10]), [3, 0, 1, 0])

    def test_several_calls(self):
        self.assertEqual(answers(MANY), [
            3, 0, 0, 0,
            2, 0, 1,
            1, 0,
            3, 0, 1, relay(0) + 1,
            2, 0, relay(0) + 1,
            1, -1,
            4, 0, relay(0) + 1, 1, 0,
            1, -1,
            3, 0, 1, 0,
            3, 0, relay(0, 1) + 1, 1,
            1, -5,
            2, 0, 0,
            1, -1,
            3, 0, 0, 1,
            2, 0, 1,
            3, 0, 0, relay(0, 1) + 1,
            4, 0, relay(0, 1) + 1, 1, 0,
        ])

    def test_calls_behind_a_refused_long_list(self):
        self.assertEqual(answers([3, 4, 1, 2, 3, 4, 4]), [1, -1, 2, 0, 0])
        self.assertEqual(answers([1, 20001] + [4] * 20001 + [4]), [1, -1, 2, 0, 0])

    def test_forty_calls(self):
        self.assertEqual(answers([4] * 40), [2, 0, 0] * 40)
        self.assertEqual(answers([9, 7] * 40), [1, -1] * 40)

    def test_thirty_thousand_numbers(self):
        self.assertEqual(answers([3, 29998] + list(range(29998))), [1, -1])

    def test_whole_numbers_in_a_list(self):
        told = answers(MANY)
        self.assertIs(type(told), list)
        self.assertEqual({type(number) for number in told}, {int})


class LeftAlone(unittest.TestCase):
    def test_the_list_handed_in_is_the_same(self):
        calls = list(MANY)
        answers(calls)
        self.assertEqual(calls, MANY)

    def test_it_is_not_changed_for_a_while_either(self):
        self.assertEqual(answers(Watched(MANY)), answers(MANY))

    def test_nothing_is_kept(self):
        first = answers(MANY)
        self.assertEqual(answers([4]), [2, 0, 0])
        self.assertEqual(answers(MANY), first)

    def test_what_is_given_back_is_not_kept(self):
        first = answers(MANY)
        copied = list(first)
        first.clear()
        self.assertEqual(answers(MANY), copied)

    def test_nothing_is_printed(self):
        out = io.StringIO()
        with contextlib.redirect_stdout(out), contextlib.redirect_stderr(out):
            answers(MANY)
        self.assertEqual(out.getvalue(), "")

    def test_nothing_is_imported_but_the_package(self):
        for file in pathlib.Path(rungpasses.__file__).parent.glob("*.py"):
            for node in ast.walk(ast.parse(file.read_text())):
                self.assertNotIsInstance(node, ast.Import, file)
                if isinstance(node, ast.ImportFrom):
                    self.assertTrue(node.module.startswith("rungpasses."), file)


if __name__ == "__main__":
    unittest.main()
