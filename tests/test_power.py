"""power: what it refuses, how it ends, and what it tells."""

import copy
import math
import unittest

from calls import (
    ABOVE_ITS_LENGTH, LARGEST, MINUS_ZERO, NOT_FINITE, OUTSIDE_MOST, OUTSIDE_N, CallTest, rows_of_bits,
)
from reference import bits_of, row_of_bits, row_of_doubles

def call(most, x, answers):
    """The arguments of a call that is written with floats."""
    return [len(x), most, row_of_bits(x), rows_of_bits(answers)]


# The matrix has the rows 2 0 and 0 1.
TWO_ROWS = call(1, [3.0, 4.0], [[1.2, 0.8]])


class PowerTest(CallTest):
    name = "power"

    def test_one_row(self):
        wanted = [1, bits_of(1.0), 1, bits_of(1.0), bits_of(2.0)]
        self.check(call(1, [3.0], [[2.0]]), wanted, "most")
        wanted = [2] + row_of_bits([-1.0, 1.0]) + [2] + row_of_bits([-1.0, -0.5])
        self.check(call(2, [-3.0], [[7.0], [-0.5]]), wanted, "most")

    def test_two_rows_by_hand(self):
        s = math.sqrt(1.2 * 1.2 + 0.8 * 0.8)
        wanted = [1] + row_of_bits([0.6, 0.8]) + [1] + row_of_bits([1.2 / s, 0.8 / s, 0.6 * 1.2 + 0.8 * 0.8])
        self.check(TWO_ROWS, wanted, "most")

    def test_the_value_is_told_of_the_last_question(self):
        # The question is 1 0 and then 0 1; the value isn't reckoned again with the last x.
        wanted = [2] + row_of_bits([1.0, 0.0, 0.0, 1.0]) + [2] + row_of_bits([0.0, 1.0, 7.0])
        self.check(call(2, [5.0, 0.0], [[0.0, 3.0], [0.0, 7.0]]), wanted, "most")

    def test_the_sign_of_0(self):
        wanted = [1, MINUS_ZERO, bits_of(1.0), 1, bits_of(-1.0), MINUS_ZERO, 0]
        self.check(call(1, [-0.0, 2.0], [[-5.0, -0.0]]), wanted, "most")

    def test_out_of_range(self):
        for n in OUTSIDE_N:
            for most in (-1, 0, 5, 4000, 4001):
                self.check([n, most, [], []], [0, -2], "range")
        self.check([0, 3, [], [[], []]], [0, -2], "range")
        for most in OUTSIDE_MOST:
            self.check([1, most, [bits_of(1.0)], [[0], [0]]], [0, -2], "range")

    def test_out_of_range_goes_ahead_of_the_other_refusals(self):
        for bad in NOT_FINITE + (0,):
            self.check([1, -1, [bad], []], [0, -2], "range")
            self.check([1, 4001, [bad], [[bad]]], [0, -2], "range")

    def test_ends_of_the_ranges(self):
        for most in (1, 2, 3999, 4000):
            self.check([1, most, [bits_of(1.0)], []], [1, bits_of(1.0)], "wanting")
        for n in (1, 2, 63, 64):
            row = [0.0] * (n - 1) + [3.0]
            unit = [0.0] * (n - 1) + [1.0]
            wanted = [1] + row_of_bits(unit) + [1] + row_of_bits(unit + [3.0])
            self.check(call(1, row, [row]), wanted, "most")

    def test_handed_over_not_finite(self):
        for bad in NOT_FINITE:
            for most in (0, 2):
                for place in range(3):
                    for other in (0, bits_of(1.0), bits_of(LARGEST)):
                        row = [other] * 3
                        row[place] = bad
                        self.check([3, most, row, [[0, 0, 0]]], [0, -4], "handed over")

    def test_answer_not_finite(self):
        for bad in NOT_FINITE:
            for place in range(2):
                arguments = copy.deepcopy(TWO_ROWS)
                arguments[3][0][place] = bad
                self.check_step(arguments, "answer", -4, 1)
                arguments = copy.deepcopy(TWO_ROWS)
                arguments[1] = 2
                arguments[3].append([bits_of(1.0), bits_of(1.0)])
                arguments[3][1][place] = bad
                self.check_step(arguments, "answer", -4, 2)
            # The bad one meets a 0 of the question.
            self.check([2, 1, row_of_bits([1.0, 0.0]), [[0, bad]]], [1, bits_of(1.0), 0, -4], "answer")

    def test_reckoned_not_finite_ahead_of_the_first_question(self):
        for most in (0, 1, 4000):
            self.check_step(call(most, [1e200], [[1.0]]), "x . x: product", -4, 0)
            self.check_step(call(most, [-1e200, 0.0], [[1.0, 1.0]]), "x . x: product", -4, 0)
            self.check_step(call(most, [1e154, -1e154], [[1.0, 1.0]]), "x . x: sum", -4, 0)

    def test_reckoned_not_finite_behind_a_question(self):
        # A quotient by s can't be the first: no double of a row is much above its root of the sum of squares.
        cases = (
            ("x . y: product", [ABOVE_ITS_LENGTH], [LARGEST]),
            ("x . y: product", [ABOVE_ITS_LENGTH], [-LARGEST]),
            ("x . y: sum", [1.0, 1.0], [LARGEST, LARGEST]),
            ("x . y: sum", [1.0, -1.0], [-LARGEST, LARGEST]),
            ("y . y: product", [1.0], [1e200]),
            ("y . y: product", [1.0, 0.0], [1.0, -1e200]),
            ("y . y: sum", [1.0, 1.0], [1e154, 1e154]),
        )
        for step, x, answer in cases:
            for most in (1, 4000):
                self.check_step(call(most, x, [answer, x]), step, -4, 1)
                self.check_step(call(max(most, 2), x, [x, answer]), step, -4, 2)

    def test_quotients_by_the_smallest_s(self):
        for mantissa in (1.2, 0.8, 0.7072, -1.2):
            number = math.ldexp(mantissa, -537)
            # The square is rounded to the least double, whose root is 2 to the power of -537.
            self.check(call(0, [number], []), [0, 0] + row_of_bits([mantissa, 0.0]), "most")
            self.check(call(1, [number], [[number]]),
                       [1] + row_of_bits([mantissa]) + [1] + row_of_bits([mantissa, mantissa * number]), "most")
        # The squares of all the others fall to 0, but they themselves don't.
        small = math.ldexp(0.7, -537)
        row = [small] * 63 + [math.ldexp(1.0, -537)]
        self.check(call(0, row, []), [0, 0] + row_of_bits([0.7] * 63 + [1.0, 0.0]), "most")

    def test_the_length_of_x_is_0(self):
        for most in (0, 1, 4000):
            for x in ([0.0], [-0.0], [0.0, -0.0, 0.0], [5e-324], [1e-200, -1e-170], [math.ldexp(0.7, -537)] * 64):
                self.check_step(call(most, x, [x, x]), "|x|", -5, 0)

    def test_the_length_of_y_is_0(self):
        for y in ([0.0, 0.0], [-0.0, 0.0], [1e-170, 0.0], [5e-324, -5e-324], [math.ldexp(0.7, -537)] * 2):
            for most in (1, 2, 4000):
                self.check_step(call(most, [3.0, 4.0], [y, [1.0, 1.0]]), "|y|", -5, 1)
            for most in (2, 3, 4000):
                self.check_step(call(most, [3.0, 4.0], [[1.0, 1.0], y]), "|y|", -5, 2)
            for most in (3, 4000):
                self.check_step(call(most, [3.0, 4.0], [[1.0, 1.0], [-7.0, 1.0], y, y]), "|y|", -5, 3)

    def test_a_value_of_0_is_not_refused(self):
        wanted = [1] + row_of_bits([1.0, 0.0]) + [1] + row_of_bits([0.0, 1.0, 0.0])
        self.check(call(1, [2.0, 0.0], [[0.0, 4.0]]), wanted, "most")

    def test_most_is_0(self):
        for answers in ([], [[1.0, 1.0]]):
            self.check(call(0, [3.0, 4.0], answers), [0, 0] + row_of_bits([0.6, 0.8, 0.0]), "most")
        self.check(call(0, [-7.0], []), [0, 0] + row_of_bits([-1.0, 0.0]), "most")

    def diagonal_answers(self, diagonal, count):
        """As many true answers for a matrix that is 0 but on its diagonal; x begins at 1 throughout."""
        n = len(diagonal)
        answers = []
        for turn in range(count):
            told, step = self.wanted(call(4000, [1.0] * n, answers))
            self.assertEqual(step, "wanting")
            answers.append([value * number for value, number in zip(diagonal, row_of_doubles(told[-n:]))])
        return answers

    def test_most_is_used_up(self):
        answers = self.diagonal_answers([1.0, 2.0, -3.0], 100)
        for most in (1, 2, 3, 10, 99, 100):
            arguments = call(most, [1.0] * 3, answers)
            wanted, step = self.wanted(arguments)
            self.assertEqual((step, wanted[0], wanted[1 + 3 * most]), ("most", most, most))
            self.check(arguments, wanted)
        # The value that is the largest, but for its sign, is found.
        self.assertAlmostEqual(row_of_doubles(self.given(call(100, [1.0] * 3, answers))[-1:])[0], -3.0, places=12)

    def test_all_hundred_answers_are_used(self):
        answers = self.diagonal_answers([1.0, 2.0, -3.0], 100)
        for most in (101, 4000):
            arguments = call(most, [1.0] * 3, answers)
            wanted, step = self.wanted(arguments)
            self.assertEqual((step, wanted[0], len(wanted)), ("wanting", 101, 1 + 3 * 101))
            self.check(arguments, wanted)

    def test_answer_wanting_at_the_first_question(self):
        self.check(call(1, [3.0, 4.0], []), [1] + row_of_bits([0.6, 0.8]), "wanting")
        self.check(call(4000, [-0.0, -5.0], []), [1] + row_of_bits([-0.0, -1.0]), "wanting")

    def test_answer_wanting_later(self):
        wanted = [2] + row_of_bits([0.6, 0.8, 0.8, -0.6])
        self.check(call(2, [3.0, 4.0], [[8.0, -6.0]]), wanted, "wanting")
        wanted = [3] + row_of_bits([1.0, -1.0, 1.0])
        self.check(call(4000, [9.0], [[-2.0], [2.0]]), wanted, "wanting")

    def test_answers_behind_the_last_question_are_not_looked_at(self):
        for bad in NOT_FINITE + (0, bits_of(-1.0)):
            arguments = copy.deepcopy(TWO_ROWS)
            arguments[3] += [[bad, bad], [bad, bad]]
            self.check(arguments, self.given(TWO_ROWS), "most")
            self.check([1, 0, [bits_of(3.0)], [[bad]]], [0, 0, bits_of(1.0), 0], "most")
            self.check([1, 3, [0], [[bad]]], [0, -5], "|x|")
            self.check([1, 3, [bits_of(3.0)], [[0], [bad]]], [1, bits_of(1.0), -5], "|y|")

    def test_what_is_given_back_is_not_what_was_handed_in(self):
        arguments = call(0, [1.0], [])
        got = self.given(arguments)
        got.append(9)
        self.assertEqual(arguments, call(0, [1.0], []))
        self.assertEqual(self.given(arguments), [0, 0] + row_of_bits([1.0, 0.0]))

    def test_the_same_rows_handed_in_for_all(self):
        row = row_of_bits([3.0, 4.0])
        wanted, step = self.wanted([2, 2, row, [row, row]])
        self.assertEqual(wanted[1:5], row_of_bits([0.6, 0.8] * 2))
        self.check([2, 2, row, [row, row]], wanted, "most")


if __name__ == "__main__":
    unittest.main()
