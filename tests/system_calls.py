"""What solve and slide refuse alike, how they end alike, and what they tell alike."""

import copy

from calls import INFINITE, LARGEST, MINUS_ZERO, NOT_FINITE, OUTSIDE_MOST, OUTSIDE_N, rows_of_bits
from reference import bits_of, row_of_bits, row_of_doubles


def system(near, most, b, x, answers):
    """The arguments of a call that is written with floats."""
    return [len(b), bits_of(near), most, row_of_bits(b), row_of_bits(x), rows_of_bits(answers)]


# 2 x = 6 from 0, and the two answers that solve it in one time.
PLAIN = system(0.0, 10, [6.0], [0.0], [[0.0], [12.0]])
# The matrix has the rows 4 1 and 1 3; b is 1 2; it begins at 2 1.
TWO_ROWS = system(0.0, 1, [1.0, 2.0], [2.0, 1.0], [[9.0, 5.0], [-35.0, -17.0]])


class SystemCalls:
    """These tests are run once for each of the two: p is r at the first time."""

    def test_one_row(self):
        self.check(PLAIN, [2] + row_of_bits([0.0, 6.0]) + [1] + row_of_bits([3.0]), "near")

    def test_two_rows_by_hand(self):
        a = 73.0 / 331.0
        x = [2.0 + a * -8.0, 1.0 + a * -3.0]
        questions = row_of_bits([2.0, 1.0, -8.0, -3.0])
        self.check(TWO_ROWS, [2] + questions + [1] + row_of_bits(x), "most")

    def test_out_of_range(self):
        for n in OUTSIDE_N:
            for most in (-1, 0, 5, 4000, 4001):
                self.check([n, bits_of(0.5), most, [], [], []], [0, -2], "range")
        self.check([0, 0, 3, [], [], [[], []]], [0, -2], "range")
        for most in OUTSIDE_MOST:
            self.check([1, 0, most, [0], [0], [[0], [0]]], [0, -2], "range")

    def test_out_of_range_goes_ahead_of_not_finite(self):
        for bad in NOT_FINITE:
            self.check([1, bad, -1, [0], [0], []], [0, -2], "range")
            self.check([1, 0, 4001, [bad], [bad], []], [0, -2], "range")
            self.check([0, bad, 0, [], [], []], [0, -2], "range")

    def test_ends_of_the_ranges(self):
        for most in (0, 1, 3999, 4000):
            arguments = system(0.0, most, [1.0], [1.0], [[1.0]])
            self.check(arguments, [1, bits_of(1.0), 0, bits_of(1.0)])
        for n in (1, 2, 63, 64):
            row = [1.0] * n
            self.check(system(0.0, 5, row, row, [row]), [1] + row_of_bits(row) + [0] + row_of_bits(row))

    def test_near_below_0(self):
        for near in (-1.0, -5e-324, -0.5, -LARGEST):
            self.check(system(near, 3, [1.0], [0.0], [[0.0], [1.0]]), [0, -2], "near below 0")
            self.check(system(near, 0, [1.0], [0.0], []), [0, -2], "near below 0")
            for bad in NOT_FINITE:
                self.check([2, bits_of(near), 3, [0, bad], [0, 0], []], [0, -4], "handed over")
                self.check([2, bits_of(near), 3, [0, 0], [0, bad], []], [0, -4], "handed over")

    def test_near_below_0_does_not_look_at_answers(self):
        self.check([1, bits_of(-1.0), 3, [0], [0], [[INFINITE]]], [0, -2], "near below 0")

    def test_near_of_0_with_a_minus_is_not_below_0(self):
        arguments = list(PLAIN)
        arguments[1] = MINUS_ZERO
        self.check(arguments, self.given(PLAIN), "near")

    def test_handed_over_not_finite(self):
        for bad in NOT_FINITE:
            self.check([1, bad, 0, [0], [0], [[0]]], [0, -4], "handed over")
            for place in range(3):
                row = [0, 0, 0]
                row[place] = bad
                self.check([3, 0, 2, row, [0, 0, 0], [[0, 0, 0]]], [0, -4], "handed over")
                self.check([3, 0, 2, [0, 0, 0], row, [[0, 0, 0]]], [0, -4], "handed over")
            self.check([1, 0, 0, [bad], [0], []], [0, -4], "handed over")

    def test_answer_not_finite(self):
        for bad in NOT_FINITE:
            for place in range(2):
                arguments = copy.deepcopy(TWO_ROWS)
                arguments[5][0][place] = bad
                self.check_step(arguments, "answer", -4, 1)
                arguments = copy.deepcopy(TWO_ROWS)
                arguments[5][1][place] = bad
                self.check_step(arguments, "answer", -4, 2)
            self.check([1, 0, 0, [0], [0], [[bad]]], [1, 0, -4], "answer")

    def test_answer_not_finite_though_it_meets_a_0(self):
        arguments = system(0.0, 4, [1.0, 0.0], [0.0, 0.0], [[0.0, 0.0], [1.0, 0.0]])
        arguments[5][1][1] = INFINITE
        self.check_step(arguments, "answer", -4, 2)

    def test_reckoned_not_finite_ahead_of_the_loop(self):
        cases = (
            ("b - A x", 0.0, [LARGEST], [-LARGEST]),
            ("first r . r: product", 0.0, [1e200], [0.0]),
            ("first r . r: sum", 0.0, [1e154, 1e154], [0.0, 0.0]),
            ("near * near", 1e200, [0.0], [0.0]),
            ("b . b: product", 0.0, [1e200], [1e200]),
            ("b . b: sum", 0.0, [1e154, -1e154], [1e154, -1e154]),
            ("e", 1e100, [1e100], [1e100]),
        )
        for step, near, b, answer in cases:
            for most in (0, 1, 4000):
                x = [0.5] * len(b)
                self.check_step(system(near, most, b, x, [answer, b, b]), step, -4, 1)

    def test_largest_that_is_still_finite(self):
        row = [LARGEST]
        self.check(system(0.0, 3, [0.0], row, [[0.0]]), [1] + row_of_bits(row) + [0] + row_of_bits(row), "near")

    def test_d_not_above_0(self):
        for first in (0.0, -0.0, -1.0, -5e-324, -1e300):
            self.check_step(system(0.0, 5, [1.0], [0.0], [[0.0], [first]]), "d", -5, 2)
        # The second product alone would be above 0.
        self.check_step(system(0.0, 5, [1.0, 1.0], [0.0, 0.0], [[0.0, 0.0], [-2.0, 1.0]]), "d", -5, 2)
        # The product is so small that it is rounded to 0.
        self.check_step(system(0.0, 5, [1e-100], [0.0], [[0.0], [1e-300]]), "d", -5, 2)

    def test_d_not_above_0_at_a_later_time(self):
        for second in ([0.0, 0.0], [-1.0, -1.0], [1.0, -1.0]):
            answers = [[0.0, 0.0], [1.0, 0.0], second]
            self.check_step(system(0.0, 5, [1.0, 1.0], [0.0, 0.0], answers), "d", -5, 3)

    def test_d_that_is_just_above_0(self):
        self.check(system(0.0, 1, [1e-160], [0.0], [[0.0], [1e-160]]),
                   [2] + row_of_bits([0.0, 1e-160]) + [1] + row_of_bits([1e-160]), "most")

    def test_c_not_above_e_at_the_start(self):
        # c is e to the bit, then below it, then just above it.
        for b, answer, times in ((2.0, 1.0, 0), (2.0, 1.5, 0), (2.0, 0.9999999999999998, 1)):
            arguments = system(0.5, 1, [b], [3.0], [[answer], [1.0]])
            wanted, step = self.wanted(arguments)
            self.assertEqual(wanted[0], 1 + times)
            self.assertEqual(wanted[2 + times], times)
            self.check(arguments, wanted)
        self.check(system(0.0, 9, [0.0], [-0.0], [[0.0]]), [1, MINUS_ZERO, 0, MINUS_ZERO], "near")

    def test_e_is_rounded_from_the_left(self):
        # near * near falls to 0, while near * (near * (b . b)) would not.
        near, b = 1e-200, 1e150
        arguments = system(near, 1, [b], [0.0], [[b - 1e135], [1.0]])
        self.assertEqual(self.given(arguments)[0], 2)
        self.check(arguments, self.wanted(arguments)[0])

    def test_most_is_0(self):
        for n in (1, 3):
            b, x, answer = [1.0] * n, [2.0] * n, [5.0] * n
            wanted = [1] + row_of_bits(x) + [0] + row_of_bits(x)
            self.check(system(0.0, 0, b, x, [answer]), wanted, "most")
            self.check(system(0.0, 0, b, x, [answer, answer]), wanted, "most")

    def diagonal_answers(self, near, diagonal, count):
        """As many true answers for a matrix that is 0 but on its diagonal; b is 1 throughout, x begins at 0."""
        n = len(diagonal)
        answers = []
        for turn in range(count):
            told, step = self.wanted(system(near, 50, [1.0] * n, [0.0] * n, answers))
            self.assertEqual(step, "wanting")
            question = row_of_doubles(told[-n:])
            answers.append([value * number for value, number in zip(diagonal, question)])
        return answers

    def test_most_is_used_up(self):
        diagonal = [1.0, 2.0, 3.0, 5.0, 8.0, 13.0]
        answers = self.diagonal_answers(0.0, diagonal, 6)
        for most in range(1, 6):
            arguments = system(0.0, most, [1.0] * 6, [0.0] * 6, answers)
            wanted, step = self.wanted(arguments)
            self.assertEqual((step, wanted[0], wanted[1 + 6 * (most + 1)]), ("most", most + 1, most))
            self.check(arguments, wanted)

    def test_answer_wanting_at_the_first_question(self):
        self.check([1, 0, 0, [0], [5], []], [1, 5], "wanting")
        self.check(system(0.0, 4000, [1.0, 2.0], [3.0, -0.0], []), [1] + row_of_bits([3.0, -0.0]), "wanting")

    def test_answers_behind_the_last_question_are_not_looked_at(self):
        for bad in NOT_FINITE + (0, bits_of(-1.0)):
            arguments = copy.deepcopy(PLAIN)
            arguments[5] += [[bad], [bad]]
            self.check(arguments, self.given(PLAIN), "near")
            arguments = copy.deepcopy(TWO_ROWS)
            arguments[5].append([bad, bad])
            self.check(arguments, self.given(TWO_ROWS), "most")
            self.check([1, 0, 0, [0], [0], [[0], [bad]]], [1, 0, 0, 0], "most")
            refused = [[0], [bits_of(-1.0)], [bad]]
            self.check([1, 0, 5, [bits_of(1.0)], [0], refused], [2, 0, bits_of(1.0), -5], "d")

    def test_what_is_given_back_is_not_what_was_handed_in(self):
        arguments = [1, 0, 0, [0], [5], [[0]]]
        got = self.given(arguments)
        got.append(9)
        self.assertEqual(arguments, [1, 0, 0, [0], [5], [[0]]])
        self.assertEqual(self.given(arguments), [1, 5, 0, 5])

    def test_the_same_rows_handed_in_for_all(self):
        row = row_of_bits([2.0, 4.0])
        arguments = [2, 0, 3, row, row, [row, row]]
        self.check(arguments, [1] + row + [0] + row, "near")

    def test_all_hundred_answers_are_used(self):
        # The matrix has the rows 1 1 and -1 1: it isn't symmetric, and r never gets to 0.
        b = [1.0, 2.0]
        answers = [[0.0, 0.0]]
        while len(answers) < 100:
            told, step = self.wanted(system(0.0, 4000, b, [0.0, 0.0], answers))
            self.assertEqual(step, "wanting")
            asked = row_of_doubles(told[-2:])
            answers.append([asked[0] + asked[1], asked[1] - asked[0]])
        for most, last in ((99, "most"), (100, "wanting"), (4000, "wanting")):
            arguments = system(0.0, most, b, [0.0, 0.0], answers)
            wanted, step = self.wanted(arguments)
            self.assertEqual((step, wanted[0]), (last, 100 if last == "most" else 101))
            self.check(arguments, wanted)
