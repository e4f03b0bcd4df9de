"""even: what it refuses, how it ends, and what it tells."""

import copy
import unittest

from calls import INFINITE, LARGEST, MINUS_ZERO, NOT_FINITE, OUTSIDE_N, CallTest, rows_of_bits
from reference import bits_of, row_of_bits


def call(x, y, answers):
    """The arguments of a call that is written with floats."""
    return [len(x), row_of_bits(x), row_of_bits(y), rows_of_bits(answers)]


# The matrix has the rows 1 2 and 3 4: it isn't even.
TWO_ROWS = call([1.0, 10.0], [100.0, 1000.0], [[21.0, 43.0], [2100.0, 4300.0]])


class EvenTest(CallTest):
    name = "even"

    def test_one_row(self):
        wanted = [2] + row_of_bits([2.0, 3.0]) + [0] + row_of_bits([30.0, 22.0])
        self.check(call([2.0], [3.0], [[10.0], [11.0]]), wanted, "both")

    def test_two_rows_by_hand(self):
        wanted = [2] + row_of_bits([1.0, 10.0, 100.0, 1000.0]) + [0] + row_of_bits([45100.0, 45100.0])
        self.check(TWO_ROWS, wanted, "both")
        # The first answer belongs to x and is met by y, the second belongs to y and is met by x.
        wanted = [2] + row_of_bits([1.0, 2.0, 3.0, 4.0]) + [0] + row_of_bits([39.0, 23.0])
        self.check(call([1.0, 2.0], [3.0, 4.0], [[5.0, 6.0], [7.0, 8.0]]), wanted, "both")

    def test_sums_are_rounded_from_the_front(self):
        ones = [1.0, 1.0, 1.0]
        wanted = [2] + row_of_bits(ones + ones) + [0] + row_of_bits([0.0, 1.0])
        self.check(call(ones, ones, [[1e16, 1.0, -1e16], [1e16, -1e16, 1.0]]), wanted, "both")

    def test_products_are_rounded_by_themselves(self):
        # 1 + 2^-30 squared is 1 + 2^-29 + 2^-60, and the last of these is lost ahead of the sum.
        number = 1.0 + 2.0 ** -30
        arguments = call([number, 1.0], [number, 1.0], [[number, -1.0 - 2.0 ** -29], [number, -1.0]])
        wanted = [2] + row_of_bits([number, 1.0] * 2) + [0] + row_of_bits([0.0, 2.0 ** -29])
        self.check(arguments, wanted, "both")

    def test_out_of_range(self):
        for n in OUTSIDE_N:
            self.check([n, [], [], []], [0, -2], "range")
        self.check([0, [], [], [[], []]], [0, -2], "range")

    def test_ends_of_the_range(self):
        for n in (1, 2, 63, 64):
            row = [1.0] * n
            wanted = [2] + row_of_bits(row + row) + [0] + row_of_bits([1.0 * n, 2.0 * n])
            self.check(call(row, row, [row, [2.0] * n]), wanted, "both")

    def test_handed_over_not_finite(self):
        for bad in NOT_FINITE:
            for place in range(3):
                for other in (0, bits_of(LARGEST)):
                    row = [other] * 3
                    row[place] = bad
                    for answers in ([], [[0, 0, 0]], [[0, 0, 0], [0, 0, 0]], [[bad] * 3]):
                        self.check([3, row, [0, 0, 0], answers], [0, -4], "handed over")
                        self.check([3, [0, 0, 0], row, answers], [0, -4], "handed over")
                        self.check([3, row, row, answers], [0, -4], "handed over")

    def test_answer_not_finite(self):
        for bad in NOT_FINITE:
            for place in range(2):
                for turn in range(2):
                    arguments = copy.deepcopy(TWO_ROWS)
                    arguments[3][turn][place] = bad
                    self.check_step(arguments, "answer", -4, turn + 1)
            # The bad ones meet nothing but 0.
            self.check([1, [0], [0], [[bad], [0]]], [1, 0, -4], "answer")
            self.check([1, [0], [0], [[0], [bad]]], [2, 0, 0, -4], "answer")

    def test_the_first_product_is_not_finite(self):
        cases = (
            ("y . A x: product", [1.0], [1e200], [1e200]),
            ("y . A x: product", [1.0, 1.0], [0.0, -1e200], [0.0, 1e200]),
            ("y . A x: sum", [1.0, 1.0], [1.0, 1.0], [LARGEST, LARGEST]),
            ("y . A x: sum", [1.0, 1.0, 1.0], [-1.0, -1.0, 1.0], [LARGEST, LARGEST, LARGEST]),
        )
        for step, x, y, answer in cases:
            self.check_step(call(x, y, [answer]), step, -4, 1)
            self.check_step(call(x, y, [answer, x]), step, -4, 1)

    def test_the_second_product_is_not_finite(self):
        cases = (
            ("x . A y: product", [1e200], [1.0], [1e200]),
            ("x . A y: product", [0.0, -1e200], [1.0, 1.0], [0.0, 1e200]),
            ("x . A y: sum", [1.0, 1.0], [1.0, 1.0], [LARGEST, LARGEST]),
            ("x . A y: sum", [-1.0, -1.0, 1.0], [1.0, 1.0, 1.0], [LARGEST, LARGEST, LARGEST]),
        )
        for step, x, y, answer in cases:
            self.check_step(call(x, y, [y, answer]), step, -4, 2)
            self.check_step(call(x, y, [y, answer, x]), step, -4, 2)

    def test_the_largest_that_is_still_finite(self):
        wanted = [2] + row_of_bits([1.0, -1.0]) + [0] + row_of_bits([-LARGEST, -LARGEST])
        self.check(call([1.0], [-1.0], [[LARGEST], [-LARGEST]]), wanted, "both")

    def test_answer_wanting_at_the_first_question(self):
        self.check(call([3.0, -0.0], [1.0, 2.0], []), [1] + row_of_bits([3.0, -0.0]), "wanting")
        self.check([1, [5], [6], []], [1, 5], "wanting")

    def test_answer_wanting_at_the_second_question(self):
        wanted = [2] + row_of_bits([3.0, -0.0, 1.0, 2.0])
        self.check(call([3.0, -0.0], [1.0, 2.0], [[7.0, 8.0]]), wanted, "wanting")
        self.check([1, [5], [6], [[7]]], [2, 5, 6], "wanting")

    def test_answers_behind_the_last_question_are_not_looked_at(self):
        for bad in NOT_FINITE + (0, bits_of(-1.0)):
            arguments = copy.deepcopy(TWO_ROWS)
            arguments[3] += [[bad, bad]] * 98
            self.check(arguments, self.given(TWO_ROWS), "both")
            self.check([1, [0], [0], [[INFINITE], [bad], [bad]]], [1, 0, -4], "answer")

    def test_the_sign_of_0(self):
        # A sum begins at 0 without a minus, so a 0 that comes out never has one.
        cases = (
            ([-0.0], [1.0], [-0.0]),
            ([0.0], [-1.0], [0.0]),
            ([-0.0, -0.0], [-0.0, 1.0], [0.0, -0.0]),
            ([1.0, 1.0], [1.0, 1.0], [-3.0, 3.0]),
            ([1.0, 1.0], [1.0, 1.0], [3.0, -3.0]),
            # The product is below 0, but is rounded to 0 with a minus.
            ([5e-324], [-5e-324], [5e-324]),
            ([-1e-200, -1e-200], [-1e-200, 1e-200], [1e-200, -1e-200]),
        )
        for x, y, answer in cases:
            wanted = [2] + row_of_bits(x + y) + [0, 0, 0]
            self.check(call(x, y, [answer, answer]), wanted, "both")
        self.assertEqual(self.given([1, [MINUS_ZERO], [MINUS_ZERO], [[1], [1]]]), [2, MINUS_ZERO, MINUS_ZERO, 0, 0, 0])

    def test_small_products_that_are_not_0(self):
        wanted = [2] + row_of_bits([1.0, -1.0]) + [0] + row_of_bits([-5e-324, 5e-324])
        self.check(call([1.0], [-1.0], [[5e-324], [5e-324]]), wanted, "both")

    def test_what_is_given_back_is_not_what_was_handed_in(self):
        arguments = copy.deepcopy(TWO_ROWS)
        got = self.given(arguments)
        got.append(9)
        self.assertEqual(arguments, TWO_ROWS)
        self.assertEqual(self.given(arguments), got[:-1])

    def test_the_same_rows_handed_in_for_all(self):
        row = row_of_bits([3.0, 4.0])
        wanted = [2] + row + row + [0] + row_of_bits([25.0, 25.0])
        self.check([2, row, row, [row, row]], wanted, "both")


if __name__ == "__main__":
    unittest.main()
