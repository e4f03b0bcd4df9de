"""The calls: each asks for products with a matrix that it never sees."""

from askedproducts.doubles import NotFinite, above, check_finite, minus, over, plus, root, times

MOST_DOUBLES = 4096
MOST_TIMES = 4000
MOST_ROWS = 64
ZERO = 0
OUT_OF_RANGE = -2
NOT_FINITE = -4
NOT_ABOVE_ZERO = -5


class OutOfRange(Exception):
    pass


class NotAboveZero(Exception):
    pass


class AnswerWanting(Exception):
    pass


class Asking:
    def __init__(self, answers):
        self.answers = answers
        self.questions = []

    def ask(self, row):
        place = len(self.questions)
        self.questions.append(row)
        if place == len(self.answers):
            raise AnswerWanting()
        answer = self.answers[place]
        check_row(answer)
        return answer

    def asked(self):
        return [len(self.questions)] + row_after_row(self.questions)


def row_after_row(rows):
    numbers = []
    for row in rows:
        numbers.extend(row)
    return numbers


def told(asking, reckon):
    try:
        answered = reckon()
    except OutOfRange:
        answered = [OUT_OF_RANGE]
    except NotFinite:
        answered = [NOT_FINITE]
    except NotAboveZero:
        answered = [NOT_ABOVE_ZERO]
    except AnswerWanting:
        answered = []
    return asking.asked() + answered


def check_range(number, least, most):
    if number < least or number > most:
        raise OutOfRange()


def check_row(row):
    for double in row:
        check_finite(double)


def check_above_zero(double):
    if not above(double, ZERO):
        raise NotAboveZero()


def check_system(n, near, most, b, x):
    check_range(n, 1, MOST_DOUBLES)
    check_range(most, 0, MOST_TIMES)
    check_row(b)
    check_row(x)
    check_finite(near)
    # Only now, since what isn't finite is refused ahead of a near below 0.
    if above(ZERO, near):
        raise OutOfRange()


def dot(left, right):
    total = ZERO
    for u, v in zip(left, right):
        total = plus(total, times(u, v))
    return total


def length(row):
    return root(dot(row, row))


def row_over(row, divisor):
    return [over(u, divisor) for u in row]


def unit_row(row):
    s = length(row)
    # A root is never below 0, so this refuses 0 alone.
    check_above_zero(s)
    return row_over(row, s)


def row_minus(left, right):
    return [minus(u, v) for u, v in zip(left, right)]


def row_plus_scaled(row, scale, other):
    return [plus(u, times(scale, v)) for u, v in zip(row, other)]


def row_minus_scaled(row, scale, other):
    return [minus(u, times(scale, v)) for u, v in zip(row, other)]


def conjugate(r, g, c, p):
    return row_plus_scaled(r, over(g, c), p)


def steepest(r, g, c, p):
    return r


def descent(asking, near, most, b, x, turned):
    r = row_minus(b, asking.ask(x))
    p = r
    c = dot(r, r)
    e = times(times(near, near), dot(b, b))
    done = 0
    while done < most and above(c, e):
        q = asking.ask(p)
        d = dot(p, q)
        check_above_zero(d)
        a = over(c, d)
        x = row_plus_scaled(x, a, p)
        r = row_minus_scaled(r, a, q)
        g = dot(r, r)
        p = turned(r, g, c, p)
        c = g
        done = done + 1
    return [done] + x


def descended(n, near, most, b, x, answers, turned):
    asking = Asking(answers)

    def reckon():
        check_system(n, near, most, b, x)
        return descent(asking, near, most, b, x, turned)

    return told(asking, reckon)


def solve(n, near, most, b, x, answers):
    return descended(n, near, most, b, x, answers, conjugate)


def slide(n, near, most, b, x, answers):
    return descended(n, near, most, b, x, answers, steepest)


def power_rounds(asking, most, x):
    x = unit_row(x)
    value = ZERO
    for turn in range(most):
        y = asking.ask(x)
        value = dot(x, y)
        x = unit_row(y)
    return [most] + x + [value]


def power(n, most, x, answers):
    asking = Asking(answers)

    def reckon():
        check_range(n, 1, MOST_DOUBLES)
        check_range(most, 0, MOST_TIMES)
        check_row(x)
        return power_rounds(asking, most, x)

    return told(asking, reckon)


def rows_of_zeros(count, size):
    return [[ZERO] * size for row in range(count)]


def arnoldi(asking, n, m, b):
    q = rows_of_zeros(m + 1, n)
    h = rows_of_zeros(m + 1, m)
    q[0] = unit_row(b)
    number = m
    for j in range(m):
        y = asking.ask(q[j])
        for i in range(j + 1):
            h[i][j] = dot(q[i], y)
            y = row_minus_scaled(y, h[i][j], q[i])
        s = length(y)
        h[j + 1][j] = s
        # A root is never 0 with a minus, so one look is enough.
        if s == ZERO:
            number = j + 1
            break
        q[j + 1] = row_over(y, s)
    return [number] + row_after_row(q) + row_after_row(h)


def basis(n, m, b, answers):
    asking = Asking(answers)

    def reckon():
        check_range(n, 1, MOST_DOUBLES)
        check_range(m, 1, MOST_ROWS)
        check_row(b)
        return arnoldi(asking, n, m, b)

    return told(asking, reckon)


def both_products(asking, x, y):
    first = dot(y, asking.ask(x))
    second = dot(x, asking.ask(y))
    return [0, first, second]


def even(n, x, y, answers):
    asking = Asking(answers)

    def reckon():
        check_range(n, 1, MOST_DOUBLES)
        check_row(x)
        check_row(y)
        return both_products(asking, x, y)

    return told(asking, reckon)
