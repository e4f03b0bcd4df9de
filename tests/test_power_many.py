"""power over many rows, against the document's words reckoned with Python's own floats."""

import math
import random
import unittest

from many import ManyTest, any_bits, any_matrix, plain_bits, symmetric, true_answers
from reference import bits_of, row_of_bits, row_of_doubles


class ManyPowerTest(ManyTest):
    name = "power"

    def test_true_matrices(self):
        source = random.Random(31)
        ends = {}
        for n in range(1, 65):
            for matrix in (symmetric(source, n), any_matrix(source, n)):
                x = row_of_bits([source.uniform(-9.0, 9.0) for i in range(n)])
                arguments = [n, source.choice([1, 2, 5, 9, 14]), x]
                answers = true_answers(self.wanted, matrix, arguments)
                self.compare(arguments + [answers], ends)
                self.compare(arguments + [answers[:source.randrange(len(answers))]], ends)
        self.check_ends(ends, ("most", "wanting"), 100)

    def test_the_largest_value_is_found(self):
        source = random.Random(32)
        for n in (1, 2, 7, 33, 64):
            matrix = [[0.1 if i != j else i + 1.0 for j in range(n)] for i in range(n)]
            matrix[n - 1][n - 1] = 3.0 * n
            arguments = [n, 90, row_of_bits([source.uniform(0.5, 1.0) for i in range(n)])]
            told = self.given(arguments + [true_answers(self.wanted, matrix, arguments)])
            self.assertEqual(told[1 + told[0] * n], 90)
            found = row_of_doubles(told[-n - 1:])
            for i in range(n):
                product = sum(u * v for u, v in zip(matrix[i], found))
                self.assertAlmostEqual(product, found[n] * found[i], places=9)

    def test_any_doubles_answered(self):
        source = random.Random(33)
        ends = {}
        for turn in range(4000):
            n = source.choice([1, 1, 2, 2, 3, 4, 5, 8, source.randrange(1, 65)])
            x = [any_bits(source) for i in range(n)]
            answers = [[any_bits(source) for i in range(n)] for row in range(source.randrange(8))]
            self.compare([n, source.randrange(7), x, answers], ends)
        steps = ("most", "wanting", "handed over", "answer", "|x|", "|y|", "x . x: product", "y . y: product")
        self.check_ends(ends, steps, 10)

    def test_finite_doubles_of_any_size_answered(self):
        source = random.Random(34)
        ends = {}
        for n in range(1, 65):
            for spread in (2, 40, 200, 500):
                x = [plain_bits(source, spread) for i in range(n)]
                answers = [[plain_bits(source, spread) for i in range(n)] for row in range(6)]
                self.compare([n, 6, x, answers], ends)
                self.compare([n, 4, x, answers], ends)
                self.compare([n, 7, x, answers], ends)
        self.check_ends(ends, ("most", "wanting"), 100)

    def test_very_small_and_very_large_doubles(self):
        source = random.Random(35)
        ends = {}
        for turn in range(2000):
            n = source.choice([1, 2, 3, 5, 9, 64])
            least, largest = source.choice([(-545, -530), (-540, -535), (505, 513), (1015, 1025)])
            rows = [
                [bits_of(math.ldexp(source.uniform(-0.99, 0.99), source.randrange(least, largest))) for i in range(n)]
                for row in range(4)
            ]
            self.compare([n, 3, rows[0], rows[1:]], ends)
            plain = row_of_bits([source.uniform(-1.0, 1.0) for i in range(n)])
            self.compare([n, 3, plain, rows[1:]], ends)
        steps = ("most", "|x|", "|y|", "x . x: sum", "y . y: product", "y . y: sum")
        self.check_ends(ends, steps, 10)
        # However small s is, a quotient by it is finite.
        self.assertNotIn("x / s", ends)
        self.assertNotIn("y / s", ends)


if __name__ == "__main__":
    unittest.main()
