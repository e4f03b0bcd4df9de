"""Single doubles: +, -, times and / against Python's own floats, bit by bit."""

import math
import operator
import random
import unittest

from askedproducts import doubles
from reference import bits_of, double_of

OPERATIONS = (
    (doubles.plus, operator.add),
    (doubles.minus, operator.sub),
    (doubles.times, operator.mul),
    (doubles.over, operator.truediv),
)

SIGN = 1 << 63
LARGEST = 0x7FEFFFFFFFFFFFFF
LEAST_NORMAL = 0x0010000000000000
ONE = 0x3FF0000000000000
TWO = 0x4000000000000000
HALF = 0x3FE0000000000000

EDGES = [
    0, 1, 2, 3, 4, 5, 0x0008000000000000, 0x000FFFFFFFFFFFFE, 0x000FFFFFFFFFFFFF,
    LEAST_NORMAL, LEAST_NORMAL + 1, 0x001FFFFFFFFFFFFF, 0x0020000000000000, 0x0020000000000001,
    0x0340000000000000, 0x0350000000000000, 0x0360000000000001,
    0x1FF0000000000000, 0x1FEFFFFFFFFFFFFF, 0x2000000000000001,
    0x3C90000000000000, 0x3CA0000000000000, 0x3CA0000000000001, 0x3CB0000000000000,
    HALF - 1, HALF, HALF + 1, ONE - 1, ONE, ONE + 1, ONE + 2, ONE + 3, TWO - 1, TWO, TWO + 1,
    0x4008000000000000, 0x4024000000000000, 0x4330000000000000, 0x4340000000000000, 0x4340000000000001,
    0x5FEFFFFFFFFFFFFF, 0x5FF0000000000000, 0x7C90000000000000, 0x7C8FFFFFFFFFFFFF, 0x7C90000000000001,
    0x7FD0000000000000, 0x7FDFFFFFFFFFFFFF, 0x7FE0000000000000, LARGEST - 1, LARGEST,
]


def outcome(reckon, left, right):
    try:
        return reckon(left, right)
    except doubles.NotFinite:
        return None


class DoublesTest(unittest.TestCase):
    def compare(self, left, right):
        for ours, theirs in OPERATIONS:
            if theirs is operator.truediv and double_of(right) == 0.0:
                continue
            number = theirs(double_of(left), double_of(right))
            wanted = bits_of(number) if math.isfinite(number) else None
            got = outcome(ours, left, right)
            if got != wanted:
                self.fail(f"{ours.__name__} of {left:#x} and {right:#x}: {got!r}, not {wanted!r}")
        number, other = double_of(left), double_of(right)
        self.assertEqual(doubles.above(left, right), number > other, (left, right))

    def test_edges_with_each_sign(self):
        edges = EDGES + [SIGN | edge for edge in EDGES]
        for left in edges:
            for right in edges:
                self.compare(left, right)

    def test_any_finite_bits(self):
        source = random.Random(1)
        for turn in range(20000):
            left = source.randrange(2) * SIGN + source.randrange(LARGEST + 1)
            right = source.randrange(2) * SIGN + source.randrange(LARGEST + 1)
            self.compare(left, right)

    def test_alike_exponents(self):
        source = random.Random(2)
        for turn in range(20000):
            exponent = source.randrange(2047)
            other = min(max(exponent + source.randrange(-56, 57), 0), 2046)
            left = source.randrange(2) * SIGN + (exponent << 52) + source.randrange(1 << 52)
            right = source.randrange(2) * SIGN + (other << 52) + source.randrange(1 << 52)
            self.compare(left, right)

    def test_few_bits_make_ties(self):
        source = random.Random(3)
        for turn in range(20000):
            left = bits_of(math.ldexp(source.randrange(-64, 65), source.randrange(-60, 61)))
            right = bits_of(math.ldexp(source.randrange(-(1 << 53), 1 << 53), source.randrange(-60, 61)))
            self.compare(left, right)
            self.compare(right, left)

    def test_denormals(self):
        source = random.Random(4)
        for turn in range(10000):
            left = source.randrange(2) * SIGN + source.randrange(1 << source.randrange(1, 54))
            right = source.randrange(2) * SIGN + source.randrange(1 << source.randrange(1, 54))
            self.compare(left, right)

    def test_products_and_quotients_that_fall_into_the_denormals(self):
        source = random.Random(5)
        for turn in range(10000):
            exponent = source.randrange(1, 1080)
            small = source.randrange(960, 1025)
            left = source.randrange(2) * SIGN + (exponent << 52) + source.randrange(1 << 52)
            for other in (small - exponent, exponent - small + 1023 + 1023):
                if 0 <= other <= 2046:
                    right = (other << 52) + source.choice([0, 1 << 51, source.randrange(1 << 52)])
                    self.compare(left, right)

    def test_results_about_the_largest(self):
        source = random.Random(6)
        for turn in range(10000):
            exponent = source.randrange(1023, 2047)
            other = 2046 + 1023 - exponent + source.randrange(-1, 2)
            left = source.randrange(2) * SIGN + (exponent << 52) + source.randrange(1 << 52)
            if other <= 2046:
                self.compare(left, (other << 52) + source.randrange(1 << 52))
            self.compare(left, (min(max(2046 - other + 1023, 0), 2046) << 52) + source.randrange(1 << 52))
            self.compare(LARGEST - source.randrange(4), source.randrange(0x7C80000000000000, 0x7CA0000000000000))

    def test_ties_take_the_last_bit_that_is_0(self):
        half_step = 0x3CA0000000000000
        self.assertEqual(doubles.plus(ONE, half_step), ONE)
        self.assertEqual(doubles.plus(ONE + 1, half_step), ONE + 2)
        self.assertEqual(doubles.minus(ONE + 1, half_step), ONE)
        self.assertEqual(doubles.times(1, HALF), 0)
        self.assertEqual(doubles.times(3, HALF), 2)
        self.assertEqual(doubles.over(5, TWO), 2)
        self.assertEqual(doubles.over(7, TWO), 4)

    def test_beyond_the_largest_is_not_finite(self):
        half_step = 0x7C90000000000000
        self.assertEqual(doubles.plus(LARGEST, half_step - 1), LARGEST)
        for reckon, left, right in (
            (doubles.plus, LARGEST, half_step),
            (doubles.minus, SIGN | LARGEST, half_step),
            (doubles.times, LARGEST, ONE + 1),
            (doubles.over, SIGN | LARGEST, ONE - 1),
        ):
            with self.assertRaises(doubles.NotFinite):
                reckon(left, right)

    def test_0_with_either_sign(self):
        self.assertEqual(doubles.plus(0, SIGN), 0)
        self.assertEqual(doubles.plus(SIGN, SIGN), SIGN)
        self.assertEqual(doubles.minus(SIGN, 0), SIGN)
        self.assertEqual(doubles.minus(ONE, ONE), 0)
        self.assertEqual(doubles.minus(SIGN | ONE, SIGN | ONE), 0)
        self.assertEqual(doubles.times(SIGN, ONE), SIGN)
        self.assertEqual(doubles.times(SIGN, SIGN | ONE), 0)
        self.assertEqual(doubles.over(0, SIGN | ONE), SIGN)
        self.assertFalse(doubles.above(0, SIGN))
        self.assertFalse(doubles.above(SIGN, 0))

    def test_what_is_finite(self):
        for bits in (0, SIGN, 1, LARGEST, SIGN | LARGEST):
            self.assertIsNone(doubles.check_finite(bits))
        for bits in (LARGEST + 1, LARGEST + 2, (1 << 63) - 1, SIGN | (LARGEST + 1), (1 << 64) - 1):
            with self.assertRaises(doubles.NotFinite):
                doubles.check_finite(bits)


if __name__ == "__main__":
    unittest.main()
