"""What the tests over many calls share: matrices, answers, and any doubles."""

import math

from calls import CallTest
from reference import bits_of, row_of_bits, row_of_doubles

MOST_ANSWERS = 100


def product(matrix, row):
    return [math.fsum(u * v for u, v in zip(line, row)) for line in matrix]


def symmetric(source, n):
    """A matrix that conjugate gradients solve: its diagonal outweighs the rest."""
    matrix = [[0.0] * n for line in range(n)]
    for i in range(n):
        matrix[i][i] = n + source.uniform(0.5, 20.0)
        for j in range(i):
            matrix[i][j] = matrix[j][i] = source.uniform(-1.0, 1.0)
    return matrix


def any_matrix(source, n):
    return [[source.uniform(-3.0, 3.0) for j in range(n)] for i in range(n)]


def true_answers(wanted, matrix, arguments):
    """Answers for each question in turn, till the call is told to its end."""
    answers = []
    while len(answers) < MOST_ANSWERS:
        told, step = wanted(arguments + [answers])
        if step != "wanting":
            break
        question = row_of_doubles(told[-len(matrix):])
        answers.append(row_of_bits(product(matrix, question)))
    return answers


def any_bits(source):
    """Any double: by its bits, or by an exponent near that of 1, or a plain one."""
    choice = source.randrange(40)
    if choice == 0:
        return source.getrandbits(64)
    if choice == 1:
        return source.choice([0, 1 << 63, 1, 0x7FEFFFFFFFFFFFFF, 0x7FF0000000000000, 0x000FFFFFFFFFFFFF])
    if choice < 10:
        return bits_of(source.choice([-1.0, 1.0]) * math.ldexp(source.random(), source.randrange(-200, 200)))
    return bits_of(source.choice([-1.0, 1.0, 1.0, 1.0]) * math.ldexp(source.random(), source.randrange(-3, 4)))


def plain_bits(source, spread):
    return bits_of(math.ldexp(source.uniform(-1.0, 1.0), source.randrange(-spread, spread + 1)))


class ManyTest(CallTest):
    """Many calls of one function, and a count of the steps at which they were over."""

    def compare(self, arguments, ends):
        wanted, step = self.wanted(arguments)
        if self.given(arguments) != wanted:
            self.fail(f"{self.name}{tuple(arguments)!r} is not {wanted!r}")
        ends[step] = ends.get(step, 0) + 1

    def check_ends(self, ends, steps, least):
        for step in steps:
            self.assertGreater(ends.get(step, 0), least, ends)
