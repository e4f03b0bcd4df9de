"""basis: what it refuses, how it ends, and what it tells."""

import copy
import math
import unittest

from calls import ABOVE_ITS_LENGTH, LARGEST, MINUS_ZERO, NOT_FINITE, OUTSIDE_M, OUTSIDE_N, CallTest, rows_of_bits
from reference import bits_of, row_of_bits

# 1.2 times this is finite, but 1.2 times 1.2 times this isn't.
FINITE_ONCE = LARGEST / 1.3


def call(m, b, answers):
    """The arguments of a call that is written with floats."""
    return [len(b), m, row_of_bits(b), rows_of_bits(answers)]


def told(questions, number, q, h):
    """What is given back, written with floats, row by row."""
    return [len(questions)] + row_of_bits(sum(questions, [])) + [number] + row_of_bits(sum(q + h, []))


# Two answers that need no rounding: the matrix has the rows 3 5 and 4 6.
TWO_ROWS = call(2, [2.0, 0.0], [[3.0, 4.0], [5.0, 6.0]])
TWO_QUESTIONS = [[1.0, 0.0], [0.0, 1.0]]


class BasisTest(CallTest):
    name = "basis"

    def test_one_row(self):
        self.check(call(1, [2.0], [[3.0]]), told([[1.0]], 1, [[1.0], [0.0]], [[3.0], [0.0]]), "s")
        self.check(call(1, [-2.0], [[3.0]]), told([[-1.0]], 1, [[-1.0], [0.0]], [[-3.0], [0.0]]), "s")

    def test_m_is_reached(self):
        wanted = told([[1.0, 0.0]], 1, TWO_QUESTIONS, [[3.0], [4.0]])
        self.check(call(1, [2.0, 0.0], [[3.0, 4.0]]), wanted, "m")
        questions = [[1.0, 0.0, 0.0], [0.0, 1.0, 0.0]]
        q = questions + [[0.0, 0.0, -1.0]]
        h = [[3.0, 5.0], [4.0, 6.0], [0.0, 7.0]]
        self.check(call(2, [2.0, 0.0, 0.0], [[3.0, 4.0, 0.0], [5.0, 6.0, -7.0]]), told(questions, 2, q, h), "m")

    def test_rounded_by_hand(self):
        y = [1.0, 7.0]
        first = 0.6 * y[0] + 0.8 * y[1]
        y = [y[0] - first * 0.6, y[1] - first * 0.8]
        s = math.sqrt(y[0] * y[0] + y[1] * y[1])
        q = [[0.6, 0.8], [y[0] / s, y[1] / s]]
        self.check(call(1, [3.0, 4.0], [[1.0, 7.0]]), told([[0.6, 0.8]], 1, q, [[first], [s]]), "m")

    def test_each_h_is_reckoned_with_the_y_that_is_left(self):
        # q's first row is 1.2, so the first time leaves 5 - 6 * 1.2 of y, and q's second row is -1.
        s = -(5.0 - (1.2 * 5.0) * 1.2)
        q = [[1.2], [-1.0], [0.0]]
        # Reckoned with all of the answer, the second h would be -2.
        first = 1.2 * 2.0
        second = -(2.0 - first * 1.2)
        self.assertGreater(second, 0.0)
        wanted = told(q[:2], 2, q, [[6.0, first], [s, second], [0.0, 0.0]])
        self.check(call(2, [ABOVE_ITS_LENGTH], [[5.0], [2.0]]), wanted, "s")

    def test_out_of_range(self):
        for n in OUTSIDE_N:
            for m in (-1, 0, 1, 16, 65):
                self.check([n, m, [], []], [0, -2], "range")
        self.check([0, 3, [], [[], []]], [0, -2], "range")
        for m in OUTSIDE_M:
            self.check([1, m, [bits_of(1.0)], [[0], [0]]], [0, -2], "range")

    def test_out_of_range_goes_ahead_of_the_other_refusals(self):
        for bad in NOT_FINITE + (0,):
            self.check([1, 0, [bad], []], [0, -2], "range")
            self.check([1, 65, [bad], [[bad]]], [0, -2], "range")

    def test_ends_of_the_ranges(self):
        for m in (1, 2, 15, 16):
            self.check([1, m, [bits_of(1.0)], []], [1, bits_of(1.0)], "wanting")
            for n in (1, 2, 63, 64):
                b = [1.0] + [0.0] * (n - 1)
                answers = []
                for place in range(1, min(m, n) + 1):
                    answers.append([1.0 if place == i else 0.0 for i in range(n)])
                arguments = call(m, b, answers)
                wanted, step = self.wanted(arguments)
                self.assertEqual(step, "s" if m >= n else "m")
                self.assertEqual(wanted[1 + wanted[0] * n], min(m, n))
                self.assertEqual(len(wanted), 1 + wanted[0] * n + 1 + (m + 1) * n + (m + 1) * m)
                self.check(arguments, wanted)

    def test_handed_over_not_finite(self):
        for bad in NOT_FINITE:
            for place in range(3):
                for other in (0, bits_of(1.0), bits_of(LARGEST)):
                    row = [other] * 3
                    row[place] = bad
                    self.check([3, 2, row, [[0, 0, 0]]], [0, -4], "handed over")

    def test_answer_not_finite(self):
        for bad in NOT_FINITE:
            for place in range(2):
                for turn in range(2):
                    arguments = copy.deepcopy(TWO_ROWS)
                    arguments[3][turn][place] = bad
                    self.check_step(arguments, "answer", -4, turn + 1)

    def test_reckoned_not_finite_ahead_of_the_first_question(self):
        for m in (1, 16):
            self.check_step(call(m, [1e200], [[1.0]]), "b . b: product", -4, 0)
            self.check_step(call(m, [-1e200, 0.0], [[1.0, 1.0]]), "b . b: product", -4, 0)
            self.check_step(call(m, [1e154, -1e154], [[1.0, 1.0]]), "b . b: sum", -4, 0)

    def test_reckoned_not_finite_behind_a_question(self):
        # A quotient by s can't be the first: no double of a row is much above its root of the sum of squares.
        cases = (
            ("q . y: product", [ABOVE_ITS_LENGTH], [LARGEST]),
            ("q . y: product", [ABOVE_ITS_LENGTH], [-LARGEST]),
            ("q . y: sum", [1.0, 1.0], [LARGEST, LARGEST]),
            ("q . y: sum", [1.0, -1.0], [-LARGEST, LARGEST]),
            ("h * q", [ABOVE_ITS_LENGTH], [FINITE_ONCE]),
            ("h * q", [-ABOVE_ITS_LENGTH], [-FINITE_ONCE]),
            ("y - h * q", [1.0, 1.0, 1.0], [LARGEST, -LARGEST, -LARGEST]),
            ("y - h * q", [1.0, 1.0, 1.0], [-LARGEST, LARGEST, LARGEST]),
            ("y . y: product", [1.0, 0.0], [0.0, 1e200]),
            ("y . y: product", [1.0, 0.0], [5.0, -1e200]),
            ("y . y: sum", [1.0, 0.0, 0.0], [0.0, 1e154, 1e154]),
        )
        for step, b, answer in cases:
            self.check_step(call(1, b, [answer]), step, -4, 1)
            self.check_step(call(16, b, [answer, b]), step, -4, 1)
            # The same, with a first row of q that has nothing to do with what comes later.
            ahead = [1.0] + [0.0] * len(b)
            answers = [[0.0] + b, [0.0] + answer]
            self.check_step(call(2, ahead, answers), step, -4, 2)
            self.check_step(call(16, ahead, answers + [ahead]), step, -4, 2)

    def test_quotients_by_the_smallest_s(self):
        for mantissa in (1.2, 0.8, 0.7072, -1.2):
            # The square is rounded to the least double, whose root is 2 to the power of -537.
            number = math.ldexp(mantissa, -537)
            self.check(call(3, [number], []), [1] + row_of_bits([mantissa]), "wanting")
            q = [[1.0, 0.0], [0.0, mantissa]]
            h = [[4.0], [math.ldexp(1.0, -537)]]
            self.check(call(1, [1.0, 0.0], [[4.0, number]]), told([[1.0, 0.0]], 1, q, h), "m")

    def test_the_length_of_b_is_0(self):
        for m in (1, 2, 16):
            for b in ([0.0], [-0.0], [0.0, -0.0, 0.0], [5e-324], [1e-200, -1e-170], [math.ldexp(0.7, -537)] * 64):
                self.check_step(call(m, b, [b, b]), "|b|", -5, 0)

    def test_s_is_0_at_the_first_j(self):
        for m in (1, 2, 3, 16):
            q = [[1.0, 0.0]] + [[0.0, 0.0]] * m
            h = [[3.0] + [0.0] * (m - 1)] + [[0.0] * m] * m
            # What's left of y needn't be 0: its squares are.
            for rest in (0.0, -0.0, 1e-170, -5e-324):
                arguments = call(m, [2.0, 0.0], [[3.0, rest], [7.0, 7.0]])
                self.check(arguments, told([[1.0, 0.0]], 1, q, h), "s")

    def test_s_is_0_at_a_later_j(self):
        for m in (3, 4, 16):
            q = TWO_QUESTIONS + [[0.0, 0.0]] * (m - 1)
            h = [[3.0, 5.0] + [0.0] * (m - 2), [4.0, 6.0] + [0.0] * (m - 2)] + [[0.0] * m] * (m - 1)
            arguments = call(m, [2.0, 0.0], [[3.0, 4.0], [5.0, 6.0], [8.0, 8.0]])
            self.check(arguments, told(TWO_QUESTIONS, 2, q, h), "s")

    def test_s_is_0_at_the_last_j(self):
        wanted = told(TWO_QUESTIONS, 2, TWO_QUESTIONS + [[0.0, 0.0]], [[3.0, 5.0], [4.0, 6.0], [0.0, 0.0]])
        self.check(TWO_ROWS, wanted, "s")
        # Though the answer is 0 itself.
        arguments = call(2, [2.0, 0.0], [[3.0, 4.0], [0.0, 0.0]])
        wanted = told(TWO_QUESTIONS, 2, TWO_QUESTIONS + [[0.0, 0.0]], [[3.0, 0.0], [4.0, 0.0], [0.0, 0.0]])
        self.check(arguments, wanted, "s")

    def test_s_stands_in_h_below_the_others(self):
        # q is all of the rows that have one 1, so h is told by the answers' own numbers.
        n, m = 4, 3
        answers = [[11.0, 21.0, 0.0, 0.0], [12.0, 22.0, 32.0, 0.0], [13.0, 23.0, 33.0, 43.0]]
        q = [[1.0 if i == j else 0.0 for j in range(n)] for i in range(n)]
        h = [[11.0, 12.0, 13.0], [21.0, 22.0, 23.0], [0.0, 32.0, 33.0], [0.0, 0.0, 43.0]]
        self.check(call(m, [5.0, 0.0, 0.0, 0.0], answers), told(q[:m], 3, q, h), "m")

    def test_the_sign_of_0(self):
        # A sum begins at 0 without a minus; what's left of y keeps its own.
        arguments = call(1, [-0.0, 2.0], [[-5.0, -0.0]])
        questions = [MINUS_ZERO, bits_of(1.0)]
        q = questions + [bits_of(-1.0), MINUS_ZERO]
        self.check(arguments, [1] + questions + [1] + q + [0, bits_of(5.0)], "m")

    def test_answer_wanting_at_the_first_question(self):
        for m in (1, 16):
            self.check(call(m, [3.0, 4.0], []), [1] + row_of_bits([0.6, 0.8]), "wanting")
            self.check(call(m, [-0.0, -5.0], []), [1] + row_of_bits([-0.0, -1.0]), "wanting")

    def test_answer_wanting_later(self):
        for m in (2, 3, 16):
            self.check(call(m, [2.0, 0.0], [[3.0, 4.0]]), [2] + row_of_bits(sum(TWO_QUESTIONS, [])), "wanting")
        answers = [[0.0, 7.0, 0.0], [1.0, 1.0, -2.0]]
        wanted = [3] + row_of_bits([1.0, 0.0, 0.0, 0.0, 1.0, 0.0, 0.0, 0.0, -1.0])
        self.check(call(3, [1.0, 0.0, 0.0], answers), wanted, "wanting")

    def test_answers_behind_the_last_question_are_not_looked_at(self):
        for bad in NOT_FINITE + (0, bits_of(-1.0)):
            for m in (1, 2, 5):
                arguments = copy.deepcopy(TWO_ROWS)
                arguments[1] = m
                plain = self.given(arguments)
                arguments[3] += [[bad, bad]] * 98
                self.check(arguments, plain)
            self.check([1, 1, [0], [[bad]]], [0, -5], "|b|")
            self.check([1, 2, [bits_of(1.0)], [[0], [bad]]], told([[1.0]], 1, [[1.0], [0.0], [0.0]], [[0.0, 0.0]] * 3))

    def test_what_is_given_back_is_not_what_was_handed_in(self):
        arguments = call(1, [1.0], [[1.0]])
        got = self.given(arguments)
        got.append(9)
        self.assertEqual(arguments, call(1, [1.0], [[1.0]]))
        self.assertEqual(self.given(arguments), got[:-1])

    def test_the_same_rows_handed_in_for_all(self):
        row = row_of_bits([3.0, 4.0])
        arguments = [2, 2, row, [row, row]]
        self.check(arguments, self.wanted(arguments)[0])


if __name__ == "__main__":
    unittest.main()
