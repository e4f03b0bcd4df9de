"""Many systems for solve and slide, against the document's words reckoned with Python's own floats."""

import math
import random

from many import any_bits, plain_bits, product, symmetric, true_answers
from reference import bits_of, row_of_bits, row_of_doubles


class ManySystems:
    """These tests are run once for each of the two."""

    def test_true_matrices(self):
        source = random.Random(11)
        ends = {}
        for n in range(1, 65):
            matrix = symmetric(source, n)
            for near in (0.0, 1e-3, 1e-12):
                b = row_of_bits([source.uniform(-9.0, 9.0) for i in range(n)])
                x = row_of_bits([source.uniform(-9.0, 9.0) for i in range(n)])
                arguments = [n, bits_of(near), source.choice([2, 5, 12, 30]), b, x]
                answers = true_answers(self.wanted, matrix, arguments)
                self.compare(arguments + [answers], ends)
                self.compare(arguments + [answers[:source.randrange(len(answers) + 1)]], ends)
        self.check_ends(ends, ("most", "near", "wanting"), 10)

    def test_true_matrices_are_solved(self):
        source = random.Random(12)
        for n in (1, 2, 7, 33, 64):
            matrix = symmetric(source, n)
            hidden = [source.uniform(-5.0, 5.0) for i in range(n)]
            arguments = [n, bits_of(1e-13), 90, row_of_bits(product(matrix, hidden)), [0] * n]
            told = self.given(arguments + [true_answers(self.wanted, matrix, arguments)])
            self.assertLess(told[1 + told[0] * n], 90)
            for found, wanted in zip(row_of_doubles(told[-n:]), hidden):
                self.assertAlmostEqual(found, wanted, places=9)

    def test_any_doubles_answered(self):
        source = random.Random(13)
        ends = {}
        for turn in range(4000):
            n = source.choice([1, 1, 2, 2, 3, 4, 5, 8, source.randrange(1, 65)])
            b, x = ([any_bits(source) for i in range(n)] for row in range(2))
            answers = [[any_bits(source) for i in range(n)] for row in range(source.randrange(8))]
            near = source.choice([0, 1 << 63, bits_of(1e-3), bits_of(0.5), any_bits(source)])
            self.compare([n, near, source.randrange(7), b, x, answers], ends)
        self.check_ends(ends, ("most", "near", "wanting", "handed over", "near below 0", "answer", "d"), 10)

    def test_finite_doubles_of_any_size_answered(self):
        source = random.Random(14)
        ends = {}
        for n in range(1, 65):
            for spread in (2, 40, 200, 500):
                b, x = ([plain_bits(source, spread) for i in range(n)] for row in range(2))
                answers = []
                for turn in range(6):
                    answers.append([plain_bits(source, spread) for i in range(n)])
                    told, step = self.wanted([n, 0, 6, b, x, answers])
                    if step == "d":
                        # Turned round, the same answer has a d above 0, and the call goes on.
                        answers[-1] = [bits ^ 1 << 63 for bits in answers[-1]]
                    elif step != "wanting":
                        break
                self.compare([n, 0, 6, b, x, answers], ends)
                self.compare([n, bits_of(0.25), 3, b, x, answers], ends)
        self.check_ends(ends, ("most", "wanting", "later r . r: product"), 50)

    def test_very_small_doubles(self):
        source = random.Random(15)
        ends = {}
        for turn in range(400):
            n = source.randrange(1, 6)
            rows = [
                [bits_of(math.ldexp(source.uniform(-1.0, 1.0), source.randrange(-545, -500))) for i in range(n)]
                for row in range(2)
            ]
            answers = [[bits ^ 1 << 63 for bits in rows[0]]]
            for row in range(3):
                told, step = self.wanted([n, 0, 4, *rows, answers])
                if step != "wanting":
                    break
                question = row_of_doubles(told[-n:])
                answers.append(row_of_bits([number * source.uniform(0.1, 2.0) for number in question]))
            self.compare([n, 0, 3, *rows, answers], ends)
        self.check_ends(ends, ("most",), 20)
