"""even over many rows, against the document's words reckoned with Python's own floats."""

import random
import unittest

from many import ManyTest, any_bits, any_matrix, plain_bits, symmetric, true_answers
from reference import row_of_bits, row_of_doubles


class ManyEvenTest(ManyTest):
    name = "even"

    def test_true_matrices(self):
        source = random.Random(51)
        ends = {}
        for n in range(1, 65):
            for matrix in (symmetric(source, n), any_matrix(source, n)):
                x, y = (row_of_bits([source.uniform(-9.0, 9.0) for i in range(n)]) for row in range(2))
                answers = true_answers(self.wanted, matrix, [n, x, y])
                self.compare([n, x, y, answers], ends)
                self.compare([n, x, y, answers[:source.randrange(2)]], ends)
        self.check_ends(ends, ("both", "wanting"), 100)

    def test_both_are_alike_for_an_even_matrix(self):
        source = random.Random(52)
        for n in (1, 2, 7, 33, 64):
            matrix = symmetric(source, n)
            x, y = (row_of_bits([source.uniform(-9.0, 9.0) for i in range(n)]) for row in range(2))
            told = self.given([n, x, y, true_answers(self.wanted, matrix, [n, x, y])])
            first, second = row_of_doubles(told[-2:])
            self.assertAlmostEqual(first, second, delta=1e-9 * (1.0 + abs(first)))

    def test_any_doubles_answered(self):
        source = random.Random(53)
        ends = {}
        for turn in range(6000):
            n = source.choice([1, 1, 2, 2, 3, 4, 5, 8, source.randrange(1, 65)])
            x, y = ([any_bits(source) for i in range(n)] for row in range(2))
            answers = [[any_bits(source) for i in range(n)] for row in range(source.randrange(5))]
            self.compare([n, x, y, answers], ends)
        self.check_ends(ends, ("both", "wanting", "handed over", "answer"), 100)
        self.check_ends(ends, ("y . A x: product", "x . A y: product"), 5)

    def test_finite_doubles_of_any_size_answered(self):
        source = random.Random(54)
        ends = {}
        for n in range(1, 65):
            for spread in (2, 40, 200, 500, 600):
                for turn in range(3):
                    x, y = ([plain_bits(source, spread) for i in range(n)] for row in range(2))
                    answers = [[plain_bits(source, spread) for i in range(n)] for row in range(2)]
                    self.compare([n, x, y, answers], ends)
        self.check_ends(ends, ("both",), 500)
        self.check_ends(ends, ("y . A x: product", "x . A y: product"), 5)


if __name__ == "__main__":
    unittest.main()
