"""The root of single doubles against Python's own math.sqrt, bit by bit."""

import math
import random
import unittest

from askedproducts.doubles import root, whole_root
from reference import bits_of, double_of

LARGEST = 0x7FEFFFFFFFFFFFFF
LEAST_NORMAL = 0x0010000000000000


class RootTest(unittest.TestCase):
    def compare(self, bits):
        wanted = bits_of(math.sqrt(double_of(bits)))
        got = root(bits)
        if got != wanted:
            self.fail(f"the root of {bits:#x}: {got:#x}, not {wanted:#x}")

    def test_plain(self):
        for number, wanted in ((0.0, 0.0), (1.0, 1.0), (4.0, 2.0), (9.0, 3.0), (0.25, 0.5), (2.25, 1.5), (1e4, 1e2)):
            self.assertEqual(root(bits_of(number)), bits_of(wanted))
        self.assertEqual(root(bits_of(2.0)), 0x3FF6A09E667F3BCD)
        self.assertEqual(root(bits_of(3.0)), 0x3FFBB67AE8584CAA)
        self.assertEqual(root(0), 0)

    def test_each_exponent(self):
        source = random.Random(21)
        for exponent in range(2047):
            for fraction in (0, 1, 2, (1 << 51) - 1, 1 << 51, (1 << 52) - 2, (1 << 52) - 1):
                self.compare((exponent << 52) + fraction)
            for turn in range(6):
                self.compare((exponent << 52) + source.randrange(1 << 52))

    def test_ends(self):
        for bits in range(300):
            self.compare(bits)
            self.compare(LARGEST - bits)
            self.compare(LEAST_NORMAL + bits)
            self.compare(LEAST_NORMAL - bits)
            self.compare(bits_of(1.0) + bits)
            self.compare(bits_of(1.0) - bits)
            self.compare(bits_of(4.0) - bits)

    def test_least_and_largest(self):
        # The least double is 2 to the power of -1074.
        self.assertEqual(root(1), bits_of(math.ldexp(1.0, -537)))
        self.assertEqual(root(4), bits_of(math.ldexp(1.0, -536)))
        self.assertEqual(root(LEAST_NORMAL), bits_of(math.ldexp(1.0, -511)))
        self.assertEqual(root(LARGEST), bits_of(math.ldexp(1.0, 512)) - 1)

    def test_denormals(self):
        source = random.Random(22)
        for size in range(1, 53):
            self.compare(1 << (size - 1))
            self.compare((1 << size) - 1)
            for turn in range(200):
                self.compare(source.randrange(1 << size))

    def test_perfect_squares_and_their_neighbours(self):
        source = random.Random(23)
        for turn in range(5000):
            whole = source.randrange(1, 1 << source.randrange(1, 27))
            scale = source.randrange(-500, 480)
            square = bits_of(math.ldexp(whole * whole, scale * 2))
            self.assertEqual(root(square), bits_of(math.ldexp(whole, scale)))
            self.compare(square - 1)
            self.compare(square + 1)
            self.compare(bits_of(math.ldexp(whole * whole, scale * 2 + 1)))

    def test_close_to_a_tie(self):
        # The square of a number half way between two doubles, taken to the doubles about it.
        source = random.Random(24)
        for turn in range(5000):
            half_way = source.randrange(1 << 53, 1 << 54) | 1
            square = math.ldexp((half_way * half_way) >> 54, source.randrange(-500, 400))
            for step in (-1, 0, 1, 2):
                self.compare(bits_of(square) + step)

    def test_any_doubles(self):
        source = random.Random(25)
        for turn in range(20000):
            self.compare(source.randrange(LARGEST + 1))

    def test_whole_root(self):
        source = random.Random(26)
        for number in range(1, 2000):
            self.assertEqual(whole_root(number), math.isqrt(number))
        for turn in range(2000):
            whole = source.randrange(1, 1 << source.randrange(1, 90))
            for number in (whole * whole, whole * whole + 1, whole * whole + 2 * whole, whole * whole + 2 * whole + 1):
                self.assertEqual(whole_root(number), math.isqrt(number))


if __name__ == "__main__":
    unittest.main()
