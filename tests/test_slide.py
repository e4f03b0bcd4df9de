"""slide: what it refuses, how it ends, and what it tells."""

import unittest

from askedproducts import krylov
from calls import LARGEST, CallTest
from reference import row_of_bits
from system_calls import SystemCalls, system


class SlideTest(SystemCalls, CallTest):
    name = "slide"

    def test_two_times_by_hand(self):
        # The matrix has the rows 2 0 and 0 1; r is 1 1, then -1/3 1/3 as nearly as doubles go.
        a = 2.0 / 3.0
        r = [1.0 - a * 2.0, 1.0 - a * 1.0]
        q = [2.0 * r[0], r[1]]
        c = r[0] * r[0] + r[1] * r[1]
        step = c / (r[0] * q[0] + r[1] * q[1])
        x = [a + step * r[0], a + step * r[1]]
        answers = [[0.0, 0.0], [2.0, 1.0], q]
        wanted = [3] + row_of_bits([0.0, 0.0, 1.0, 1.0] + r) + [2] + row_of_bits(x)
        self.check(system(0.0, 2, [1.0, 1.0], [0.0, 0.0], answers), wanted, "most")

    def test_reckoned_not_finite_in_the_loop(self):
        # r - a * q can't be the first: r . r is finite, so r is too small beside the largest.
        cases = (
            ("r . q: product", [1e100], [0.0], [[0.0], [1e300]]),
            ("r . q: product", [-1e100], [0.0], [[0.0], [1e300]]),
            ("r . q: sum", [1.0, 1.0], [0.0, 0.0], [[0.0, 0.0], [LARGEST, LARGEST]]),
            ("r . q: sum", [1.0, 1.0], [0.0, 0.0], [[0.0, 0.0], [-LARGEST, -LARGEST]]),
            ("c / d", [1.0], [0.0], [[0.0], [1e-310]]),
            ("a * r", [1e100], [0.0], [[0.0], [1e-150]]),
            ("x + a * r", [1.0], [1e308], [[0.0], [1e-308]]),
            ("a * q", [1.0, 0.0], [0.0, 0.0], [[0.0, 0.0], [1e-200, 1e200]]),
            ("later r . r: product", [1.0, 0.0], [0.0, 0.0], [[0.0, 0.0], [1.0, 1e200]]),
            ("later r . r: sum", [1.0, 0.0, 0.0], [0.0] * 3, [[0.0] * 3, [1.0, 1e154, 1e154]]),
        )
        for step, b, x, answers in cases:
            for most in (1, 7):
                self.check_step(system(0.0, most, b, x, answers), step, -4, 2)

    def test_reckoned_not_finite_at_a_later_time(self):
        # The first time leaves r at -1 1 0 0, with c at 2.
        begun = [[0.0] * 4, [1.0, 0.0, 0.0, 0.0]]
        cases = (
            ("r . q: sum", [-LARGEST, LARGEST, 0.0, 0.0]),
            ("c / d", [-1e-310, 0.0, 0.0, 0.0]),
            ("x + a * r", [-1.2e-308, 0.0, 0.0, 0.0]),
            ("a * q", [-1e-200, 0.0, 0.0, 1e200]),
            ("later r . r: product", [-1.0, 0.0, 0.0, 1e200]),
            ("later r . r: sum", [-1.0, 0.0, 0.5e154, 0.5e154]),
        )
        for step, answer in cases:
            for most in (2, 4000):
                arguments = system(0.0, most, [1.0, 1.0, 0.0, 0.0], [-LARGEST, 0.0, 0.0, 0.0], begun + [answer])
                self.check_step(arguments, step, -4, 3)

    def test_g_over_c_is_not_reckoned(self):
        # g is 1e200 and c is 1e-200: solve is over here, but slide has no use for their quotient.
        arguments = system(0.0, 1, [1e-100, 0.0], [0.0, 0.0], [[0.0, 0.0], [1e-100, 1e100]])
        questions = row_of_bits([0.0, 0.0, 1e-100, 0.0])
        self.assertEqual(krylov.solve(*arguments), [2] + questions + [-4])
        self.check(arguments, [2] + questions + [1] + row_of_bits([1e-100, 0.0]), "most")

    def test_end_before_most(self):
        answers = self.diagonal_answers(1e-3, [1.0, 2.0, 4.0], 14)
        for most in (14, 50, 4000):
            arguments = system(1e-3, most, [1.0] * 3, [0.0] * 3, answers)
            wanted, step = self.wanted(arguments)
            self.assertEqual((step, wanted[0], wanted[1 + 3 * 14]), ("near", 14, 13))
            self.check(arguments, wanted, "near")

    def test_answer_wanting_later(self):
        self.check(system(0.0, 3, [6.0], [0.0], [[0.0]]), [2] + row_of_bits([0.0, 6.0]), "wanting")
        answers = [[0.0, 0.0], [1.0, 0.0]]
        # d is 1, c is 2 and a is 2, so r is -1 1, and that is asked, where solve would ask 0 2.
        wanted = [3] + row_of_bits([0.0, 0.0, 1.0, 1.0, -1.0, 1.0])
        self.check(system(0.0, 3, [1.0, 1.0], [0.0, 0.0], answers), wanted, "wanting")


if __name__ == "__main__":
    unittest.main()
