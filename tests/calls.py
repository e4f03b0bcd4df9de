"""What the tests of single calls share: a call held against the document's words, and doubles at the edges."""

import copy
import math
import unittest

import reference
from askedproducts import krylov
from reference import row_of_bits

INFINITE = 0x7FF0000000000000
LARGEST = 1.7976931348623157e308
NOT_FINITE = (INFINITE, INFINITE | 1 << 63, INFINITE + 1, (1 << 63) - 1, (1 << 64) - 1)
LEAST = -2147483648
GREATEST = 2147483647
MINUS_ZERO = 1 << 63
OUTSIDE_N = (0, -1, -64, LEAST, 4097, 4098, GREATEST)
OUTSIDE_M = (0, -1, -16, LEAST, 65, 66, GREATEST)
OUTSIDE_MOST = (-1, -2, LEAST, 4001, 4002, GREATEST)
# The square of this falls to the least double, and that one's root is smaller than this.
ABOVE_ITS_LENGTH = math.ldexp(1.2, -537)


def rows_of_bits(rows):
    return [row_of_bits(row) for row in rows]


def refuse_change(*arguments):
    raise AssertionError("what is handed in was changed")


class Unchanging(list):
    """A list that can't be changed, not for a while either."""


for method in (
    "__setitem__", "__delitem__", "__iadd__", "__imul__", "append", "clear", "extend", "insert", "pop", "remove",
    "reverse", "sort",
):
    setattr(Unchanging, method, refuse_change)


def unchanging(value):
    if isinstance(value, list):
        return Unchanging([unchanging(part) for part in value])
    return value


class CallTest(unittest.TestCase):
    """The tests of one function, whose name is given by the class below."""

    name = None

    def given(self, arguments):
        return getattr(krylov, self.name)(*arguments)

    def wanted(self, arguments):
        return getattr(reference, self.name)(*arguments)

    def check(self, arguments, wanted, step=None):
        before = copy.deepcopy(arguments)
        got = self.given(arguments)
        self.assertEqual(got, wanted)
        for number in got:
            self.assertIs(type(number), int)
        self.assertIs(type(got), list)
        self.assertEqual(arguments, before)
        self.assertEqual(self.given(arguments), wanted)
        self.assertEqual(self.given([unchanging(argument) for argument in arguments]), wanted)
        expected, expected_step = self.wanted(arguments)
        self.assertEqual(wanted, expected)
        if step is not None:
            self.assertEqual(expected_step, step)

    def check_step(self, arguments, step, number, questions):
        """The call is over at that step with that refusal, behind that many questions."""
        wanted, found = self.wanted(arguments)
        self.assertEqual(found, step)
        self.assertEqual(wanted[0], questions)
        self.assertEqual(wanted[1 + questions * arguments[0]:], [number])
        self.check(arguments, wanted, step)
