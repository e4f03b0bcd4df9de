"""basis over many rows, against the document's words reckoned with Python's own floats."""

import math
import random
import unittest

from many import ManyTest, any_bits, any_matrix, plain_bits, symmetric, true_answers
from reference import bits_of, row_of_bits, row_of_doubles


def low_rank(source, n, rank):
    """A matrix whose products all lie within a few rows' reach, of small whole numbers."""
    rows = [[float(source.randrange(-2, 3)) for i in range(n)] for row in range(rank)]
    return [[sum(row[i] * row[j] for row in rows) for j in range(n)] for i in range(n)]


class ManyBasisTest(ManyTest):
    name = "basis"

    def test_true_matrices(self):
        source = random.Random(41)
        ends = {}
        for n in range(1, 65):
            m = source.randrange(1, 17)
            for matrix in (symmetric(source, n), any_matrix(source, n)):
                b = row_of_bits([source.uniform(-9.0, 9.0) for i in range(n)])
                answers = true_answers(self.wanted, matrix, [n, m, b])
                self.compare([n, m, b, answers], ends)
                self.compare([n, m, b, answers[:source.randrange(len(answers))]], ends)
        self.check_ends(ends, ("m", "wanting"), 100)

    def test_each_m(self):
        source = random.Random(42)
        ends = {}
        for n in (1, 2, 3, 8, 17, 64):
            matrix = any_matrix(source, n)
            b = row_of_bits([source.uniform(-9.0, 9.0) for i in range(n)])
            answers = true_answers(self.wanted, matrix, [n, 16, b])
            for m in range(1, 17):
                self.compare([n, m, b, answers], ends)
        self.check_ends(ends, ("m",), 60)

    def test_s_comes_to_0(self):
        source = random.Random(43)
        ends = {}
        for turn in range(300):
            n = source.choice([1, 2, 3, 4, 6, 10])
            matrix = low_rank(source, n, source.randrange(0, 3))
            place = source.randrange(n)
            b = row_of_bits([4.0 if i == place else 0.0 for i in range(n)])
            m = source.randrange(1, 9)
            answers = true_answers(self.wanted, matrix, [n, m, b])
            self.compare([n, m, b, answers], ends)
        self.check_ends(ends, ("m", "s"), 50)

    def test_a_basis_is_built(self):
        source = random.Random(44)
        for n, m in ((2, 1), (5, 3), (20, 16), (64, 16)):
            matrix = any_matrix(source, n)
            b = row_of_bits([source.uniform(-9.0, 9.0) for i in range(n)])
            told = self.given([n, m, b, true_answers(self.wanted, matrix, [n, m, b])])
            place = 1 + told[0] * n
            self.assertEqual(told[place], m)
            numbers = row_of_doubles(told[place + 1:])
            q = [numbers[i * n:(i + 1) * n] for i in range(m + 1)]
            h = [numbers[(m + 1) * n + i * m:(m + 1) * n + (i + 1) * m] for i in range(m + 1)]
            for i in range(m + 1):
                for j in range(m + 1):
                    self.assertAlmostEqual(sum(u * v for u, v in zip(q[i], q[j])), 1.0 if i == j else 0.0, places=9)
            for j in range(m):
                for k in range(n):
                    product = sum(u * v for u, v in zip(matrix[k], q[j]))
                    self.assertAlmostEqual(product, sum(q[i][k] * h[i][j] for i in range(m + 1)), places=9)

    def test_any_doubles_answered(self):
        source = random.Random(45)
        ends = {}
        for turn in range(3000):
            n = source.choice([1, 1, 2, 2, 3, 4, 5, 8, source.randrange(1, 65)])
            b = [any_bits(source) for i in range(n)]
            answers = [[any_bits(source) for i in range(n)] for row in range(source.randrange(8))]
            self.compare([n, source.randrange(1, 8), b, answers], ends)
        steps = ("m", "wanting", "handed over", "answer", "|b|", "s", "b . b: product", "y . y: product")
        self.check_ends(ends, steps, 5)

    def test_finite_doubles_of_any_size_answered(self):
        source = random.Random(46)
        ends = {}
        for n in range(1, 65):
            for spread in (2, 40, 200, 500):
                b = [plain_bits(source, spread) for i in range(n)]
                answers = [[plain_bits(source, spread) for i in range(n)] for row in range(5)]
                self.compare([n, 4, b, answers], ends)
                self.compare([n, source.randrange(1, 17), b, answers], ends)
        self.check_ends(ends, ("m", "wanting"), 50)

    def test_very_small_and_very_large_doubles(self):
        source = random.Random(47)
        ends = {}
        for turn in range(1500):
            n = source.choice([1, 2, 3, 5, 9])
            least, largest = source.choice([(-545, -530), (-540, -535), (505, 513), (1023, 1025)])
            rows = [
                [bits_of(math.ldexp(source.uniform(-0.99, 0.99), source.randrange(least, largest))) for i in range(n)]
                for row in range(4)
            ]
            self.compare([n, 3, rows[0], rows[1:]], ends)
            plain = row_of_bits([source.uniform(-1.0, 1.0) for i in range(n)])
            self.compare([n, 3, plain, rows[1:]], ends)
        self.check_ends(ends, ("m", "s", "|b|", "b . b: sum", "y . y: product", "y . y: sum"), 10)
        # However small s is, a quotient by it is finite.
        self.assertNotIn("b / s", ends)
        self.assertNotIn("y / s", ends)


if __name__ == "__main__":
    unittest.main()
