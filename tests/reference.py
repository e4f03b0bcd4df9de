"""The document's words reckoned with Python's own floats, for the tests to hold the program against."""

import math
import struct


def bits_of(number):
    return struct.unpack("<Q", struct.pack("<d", number))[0]


def double_of(bits):
    return struct.unpack("<d", struct.pack("<Q", bits))[0]


def row_of_bits(numbers):
    return [bits_of(number) for number in numbers]


def row_of_doubles(row):
    return [double_of(bits) for bits in row]


class Over(Exception):
    """The call is over: what is answered, and at which step that was seen."""

    def __init__(self, answered, step):
        super().__init__(step)
        self.answered = answered
        self.step = step


def finite(number, step):
    if not math.isfinite(number):
        raise Over([-4], step)
    return number


class Reckoning:
    """One call: the questions asked so far, and the steps that need a name for the tests."""

    def __init__(self, answers):
        self.answers = [row_of_doubles(answer) for answer in answers]
        self.questions = []

    def ask(self, row):
        self.questions.append(list(row))
        if len(self.questions) > len(self.answers):
            raise Over([], "wanting")
        answer = self.answers[len(self.questions) - 1]
        for number in answer:
            finite(number, "answer")
        return answer

    def told(self, answered):
        numbers = [len(self.questions)]
        for question in self.questions:
            numbers += row_of_bits(question)
        return numbers + answered


def dot(x, y, name):
    s = 0.0
    for i in range(len(x)):
        product = finite(x[i] * y[i], name + ": product")
        s = finite(s + product, name + ": sum")
    return s


def length(row, name):
    return math.sqrt(dot(row, row, name))


def begin(reckoning, n, near, most, b, x):
    """What solve and slide do ahead of their loops: r, c and e."""
    if not 1 <= n <= 4096 or not 0 <= most <= 4000:
        raise Over([-2], "range")
    for number in b + x + [near]:
        finite(number, "handed over")
    if near < 0.0:
        raise Over([-2], "near below 0")
    answer = reckoning.ask(x)
    r = [finite(b[i] - answer[i], "b - A x") for i in range(n)]
    c = dot(r, r, "first r . r")
    square = finite(near * near, "near * near")
    e = finite(square * dot(b, b, "b . b"), "e")
    return r, c, e


def solve_steps(reckoning, n, near, most, b, x):
    r, c, e = begin(reckoning, n, near, most, b, x)
    p = r
    times = 0
    while times < most and c > e:
        q = reckoning.ask(p)
        d = dot(p, q, "p . q")
        if not d > 0.0:
            raise Over([-5], "d")
        a = finite(c / d, "c / d")
        moved = [finite(a * p[i], "a * p") for i in range(n)]
        x = [finite(x[i] + moved[i], "x + a * p") for i in range(n)]
        moved = [finite(a * q[i], "a * q") for i in range(n)]
        r = [finite(r[i] - moved[i], "r - a * q") for i in range(n)]
        g = dot(r, r, "later r . r")
        t = finite(g / c, "g / c")
        moved = [finite(t * p[i], "t * p") for i in range(n)]
        p = [finite(r[i] + moved[i], "r + t * p") for i in range(n)]
        c = g
        times += 1
    return [times] + row_of_bits(x), "most" if times == most else "near"


def slide_steps(reckoning, n, near, most, b, x):
    r, c, e = begin(reckoning, n, near, most, b, x)
    times = 0
    while times < most and c > e:
        q = reckoning.ask(r)
        d = dot(r, q, "r . q")
        if not d > 0.0:
            raise Over([-5], "d")
        a = finite(c / d, "c / d")
        moved = [finite(a * r[i], "a * r") for i in range(n)]
        x = [finite(x[i] + moved[i], "x + a * r") for i in range(n)]
        moved = [finite(a * q[i], "a * q") for i in range(n)]
        r = [finite(r[i] - moved[i], "r - a * q") for i in range(n)]
        c = dot(r, r, "later r . r")
        times += 1
    return [times] + row_of_bits(x), "most" if times == most else "near"


def power_steps(reckoning, n, most, x):
    if not 1 <= n <= 4096 or not 0 <= most <= 4000:
        raise Over([-2], "range")
    for number in x:
        finite(number, "handed over")
    s = length(x, "x . x")
    if s == 0.0:
        raise Over([-5], "|x|")
    x = [finite(x[i] / s, "x / s") for i in range(n)]
    value = 0.0
    for time in range(most):
        y = reckoning.ask(x)
        value = dot(x, y, "x . y")
        s = length(y, "y . y")
        if s == 0.0:
            raise Over([-5], "|y|")
        x = [finite(y[i] / s, "y / s") for i in range(n)]
    return [most] + row_of_bits(x + [value]), "most"


def basis_steps(reckoning, n, m, b):
    if not 1 <= n <= 4096 or not 1 <= m <= 64:
        raise Over([-2], "range")
    for number in b:
        finite(number, "handed over")
    q = [[0.0] * n for row in range(m + 1)]
    h = [[0.0] * m for row in range(m + 1)]
    s = length(b, "b . b")
    if s == 0.0:
        raise Over([-5], "|b|")
    q[0] = [finite(b[k] / s, "b / s") for k in range(n)]
    number, step = m, "m"
    for j in range(m):
        y = reckoning.ask(q[j])
        for i in range(j + 1):
            h[i][j] = dot(q[i], y, "q . y")
            moved = [finite(h[i][j] * q[i][k], "h * q") for k in range(n)]
            y = [finite(y[k] - moved[k], "y - h * q") for k in range(n)]
        s = length(y, "y . y")
        h[j + 1][j] = s
        if s == 0.0:
            number, step = j + 1, "s"
            break
        q[j + 1] = [finite(y[k] / s, "y / s") for k in range(n)]
    return [number] + row_of_bits(sum(q + h, [])), step


def even_steps(reckoning, n, x, y):
    if not 1 <= n <= 4096:
        raise Over([-2], "range")
    for number in x + y:
        finite(number, "handed over")
    first = dot(y, reckoning.ask(x), "y . A x")
    second = dot(x, reckoning.ask(y), "x . A y")
    return [0] + row_of_bits([first, second]), "both"


def outcome(steps, answers, arguments):
    """What the call must give back, and the step at which it was over."""
    reckoning = Reckoning(answers)
    try:
        answered, step = steps(reckoning, *arguments)
    except Over as over:
        answered, step = over.answered, over.step
    return reckoning.told(answered), step


def solve(n, near, most, b, x, answers):
    arguments = (n, double_of(near), most, row_of_doubles(b), row_of_doubles(x))
    return outcome(solve_steps, answers, arguments)


def slide(n, near, most, b, x, answers):
    arguments = (n, double_of(near), most, row_of_doubles(b), row_of_doubles(x))
    return outcome(slide_steps, answers, arguments)


def power(n, most, x, answers):
    return outcome(power_steps, answers, (n, most, row_of_doubles(x)))


def basis(n, m, b, answers):
    return outcome(basis_steps, answers, (n, m, row_of_doubles(b)))


def even(n, x, y, answers):
    return outcome(even_steps, answers, (n, row_of_doubles(x), row_of_doubles(y)))
