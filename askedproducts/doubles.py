"""Finite doubles, told by their 64 bits, and their reckoning with one rounding a step.

Every finite double is a whole number of times the least denormal, 2 to the power of -1074.
So a double is taken here as a sign and mantissa * 2 to the power of exponent, in units of
that least denormal, and the exponent is never below 0.
"""

SIGN = 0x8000000000000000
INFINITE = 0x7FF0000000000000
FRACTION = 0x000FFFFFFFFFFFFF
FRACTION_BITS = 52
MANTISSA_BITS = 53
# One is 2 to this power, in units of the least denormal.
UNIT_EXPONENT = 1074
# A quotient of two mantissas keeps 56 bits or more with this shift: enough to round by.
QUOTIENT_SHIFT = 108
# The whole root of a mantissa keeps 56 bits or more with this shift: enough to round by.
ROOT_SHIFT = 110


class NotFinite(Exception):
    pass


def check_finite(bits):
    if bits & INFINITE == INFINITE:
        raise NotFinite()


def mantissa_of(bits):
    if bits & INFINITE == 0:
        return bits & FRACTION
    return (bits & FRACTION) + FRACTION + 1


def exponent_of(bits):
    # Denormals and the least normal doubles have the same exponent.
    return max((bits & INFINITE) >> FRACTION_BITS, 1) - 1


def without_low_bits(mantissa, dropped):
    half = 1 << (dropped - 1)
    rest = mantissa & (half + half - 1)
    kept = mantissa >> dropped
    if rest > half or (rest == half and kept & 1 == 1):
        return kept + 1
    return kept


def rounded(sign, mantissa, exponent):
    if mantissa == 0:
        return sign
    dropped = max(mantissa.bit_length() - MANTISSA_BITS, -exponent)
    if dropped > 0:
        kept = without_low_bits(mantissa, dropped)
    else:
        kept = mantissa << -dropped
    # The top bit of a normal mantissa, or a carry out of the rounding, raises the exponent's bits by itself.
    bits = ((exponent + dropped) << FRACTION_BITS) + kept
    if bits >= INFINITE:
        raise NotFinite()
    return sign | bits


def negated(bits):
    return bits ^ SIGN


def signed_mantissa(bits):
    if bits & SIGN == SIGN:
        return -mantissa_of(bits)
    return mantissa_of(bits)


def plus(left, right):
    exponent = min(exponent_of(left), exponent_of(right))
    whole = signed_mantissa(left) << (exponent_of(left) - exponent)
    whole = whole + (signed_mantissa(right) << (exponent_of(right) - exponent))
    if whole == 0:
        # A sum of 0 has a minus only if both sides have one.
        return left & right & SIGN
    return rounded(SIGN if whole < 0 else 0, abs(whole), exponent)


def minus(left, right):
    return plus(left, negated(right))


def times(left, right):
    exponent = exponent_of(left) + exponent_of(right) - UNIT_EXPONENT
    return rounded((left ^ right) & SIGN, mantissa_of(left) * mantissa_of(right), exponent)


def with_rest(whole, rest):
    # One low bit stands for all that is left over, so that it isn't taken for a tie.
    return (whole << 1) + (1 if rest != 0 else 0)


def over(left, right):
    # The callers have found the right side above 0, so it is never 0 here.
    divided = mantissa_of(left) << QUOTIENT_SHIFT
    quotient = with_rest(divided // mantissa_of(right), divided % mantissa_of(right))
    exponent = exponent_of(left) - exponent_of(right) + UNIT_EXPONENT - QUOTIENT_SHIFT - 1
    return rounded((left ^ right) & SIGN, quotient, exponent)


def whole_root(number):
    # Newton's steps begin above the root and go down till they have reached its whole part.
    reached = 1 << ((number.bit_length() + 1) >> 1)
    lower = (reached + number // reached) >> 1
    while lower < reached:
        reached = lower
        lower = (reached + number // reached) >> 1
    return reached


def root(bits):
    # The callers take the root of sums of squares alone, so it is never one of a double below 0.
    if mantissa_of(bits) == 0:
        return bits
    # What is left of the exponent must be even, so that it can be halved.
    shift = ROOT_SHIFT + (exponent_of(bits) & 1)
    square = mantissa_of(bits) << shift
    whole = whole_root(square)
    exponent = ((exponent_of(bits) + UNIT_EXPONENT - shift) >> 1) - 1
    return rounded(0, with_rest(whole, square - whole * whole), exponent)


def ordered(bits):
    if bits & SIGN == SIGN:
        return SIGN - bits
    return bits


def above(left, right):
    return ordered(left) > ordered(right)
