"""solve: what it refuses, how it ends, and what it tells."""

import unittest

from askedproducts.krylov import dot
from calls import LARGEST, MINUS_ZERO, CallTest
from reference import bits_of, row_of_bits
from system_calls import SystemCalls, system


class SolveTest(SystemCalls, CallTest):
    name = "solve"

    def test_reckoned_not_finite_in_the_loop(self):
        # r - a * q and r + t * p can't be the first: r . r is finite, so r is too small beside the largest.
        cases = (
            ("p . q: product", [1e100], [0.0], [[0.0], [1e300]]),
            ("p . q: sum", [1.0, 1.0], [0.0, 0.0], [[0.0, 0.0], [LARGEST, LARGEST]]),
            ("p . q: sum", [1.0, 1.0], [0.0, 0.0], [[0.0, 0.0], [-LARGEST, -LARGEST]]),
            ("c / d", [1.0], [0.0], [[0.0], [1e-310]]),
            ("a * p", [1e100], [0.0], [[0.0], [1e-150]]),
            ("x + a * p", [1.0], [1e308], [[0.0], [1e-308]]),
            ("a * q", [1.0, 0.0], [0.0, 0.0], [[0.0, 0.0], [1e-200, 1e200]]),
            ("later r . r: product", [1.0, 0.0], [0.0, 0.0], [[0.0, 0.0], [1.0, 1e200]]),
            ("later r . r: sum", [1.0, 0.0, 0.0], [0.0] * 3, [[0.0] * 3, [1.0, 1e154, 1e154]]),
            ("g / c", [1e-100, 0.0], [0.0, 0.0], [[0.0, 0.0], [1e-100, 1e100]]),
        )
        for step, b, x, answers in cases:
            for most in (1, 7):
                self.check_step(system(0.0, most, b, x, answers), step, -4, 2)

    def test_reckoned_not_finite_at_a_later_time(self):
        # p is about 1e110 at its front by then, and r grows to about 1e152 while d stays small.
        answers = [[0.0] * 3, [1e-10, 1e50, 0.0], [1e-10, 0.0, 1e152]]
        self.check_step(system(0.0, 2, [1e-10, 0.0, 0.0], [0.0] * 3, answers), "t * p", -4, 3)

    def test_end_before_most(self):
        answers = self.diagonal_answers(1e-9, [1.0, 2.0, 4.0], 4)
        for most in (4, 50, 4000):
            arguments = system(1e-9, most, [1.0] * 3, [0.0] * 3, answers)
            wanted, step = self.wanted(arguments)
            self.assertEqual((step, wanted[0], wanted[13]), ("near", 4, 3))
            self.check(arguments, wanted, "near")

    def test_answer_wanting_later(self):
        self.check(system(0.0, 3, [6.0], [0.0], [[0.0]]), [2] + row_of_bits([0.0, 6.0]), "wanting")
        answers = [[0.0, 0.0], [1.0, 0.0]]
        # d is 1, c is 2 and a is 2, so r is -1 1; g is 2 and t is 1, so p is 0 2.
        wanted = [3] + row_of_bits([0.0, 0.0, 1.0, 1.0, 0.0, 2.0])
        self.check(system(0.0, 3, [1.0, 1.0], [0.0, 0.0], answers), wanted, "wanting")

    def test_dot_begins_at_0_without_a_minus(self):
        self.assertEqual(dot([MINUS_ZERO, 0], [bits_of(1.0), bits_of(-1.0)]), 0)
        self.assertEqual(dot(row_of_bits([1e16, 1.0, -1e16]), row_of_bits([1.0, 1.0, 1.0])), 0)


if __name__ == "__main__":
    unittest.main()
