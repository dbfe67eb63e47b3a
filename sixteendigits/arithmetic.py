"""Sums, products, quotients and square roots of numbers, rounded."""

from sixteendigits.bits import FINITE, INFINITE, NAN, Number, finite, infinity, is_zero, nan
from sixteendigits.rounding import digit_count, rounded, ten_to

MOST_ADDED_UP = 1000


def with_sign_turned(a):
    return Number(a.kind, 1 - a.minus, a.coefficient, a.exponent)


def added(a, b):
    if a.kind == NAN or b.kind == NAN:
        return nan()
    if a.kind == INFINITE or b.kind == INFINITE:
        return added_with_infinity(a, b)
    lower = min(a.exponent, b.exponent)
    total = signed_coefficient(a, lower) + signed_coefficient(b, lower)
    if total == 0:
        return rounded(a.minus & b.minus, 0, lower, lower)
    return rounded(1 if total < 0 else 0, abs(total), lower, lower)


def added_with_infinity(a, b):
    if a.kind == FINITE:
        return infinity(b.minus)
    if b.kind == INFINITE and a.minus != b.minus:
        return nan()
    return infinity(a.minus)


def added_up(numbers):
    if len(numbers) > MOST_ADDED_UP:
        return nan()
    if len(numbers) == 0:
        return finite(0, 0, 0)
    # Begun with the first and not with 0, which would bring its exponent and its sign into the sum.
    so_far = numbers[0]
    for number in numbers[1:]:
        so_far = added(so_far, number)
    return so_far


# The exponent is not above a's own, so that nothing of a is lost.
def signed_coefficient(a, exponent):
    size = a.coefficient * ten_to(a.exponent - exponent)
    return -size if a.minus == 1 else size


def multiplied(a, b):
    if a.kind == NAN or b.kind == NAN:
        return nan()
    minus = a.minus ^ b.minus
    if a.kind == INFINITE or b.kind == INFINITE:
        return nan() if is_zero(a) or is_zero(b) else infinity(minus)
    exponent = a.exponent + b.exponent
    return rounded(minus, a.coefficient * b.coefficient, exponent, exponent)


def divided(a, b):
    if a.kind == NAN or b.kind == NAN:
        return nan()
    minus = a.minus ^ b.minus
    if a.kind == INFINITE:
        return nan() if b.kind == INFINITE else infinity(minus)
    if b.kind == INFINITE:
        return finite(minus, 0, 0)
    if is_zero(b):
        return nan() if is_zero(a) else infinity(minus)
    wanted = a.exponent - b.exponent
    # Forty places: a quotient of sixteen digits at most ends within them, any other has digits to spare.
    scaled = a.coefficient * 10 ** 40
    digits = with_rest_marked(scaled // b.coefficient, scaled % b.coefficient)
    return rounded(minus, digits, wanted - 41, wanted)


# One digit more, and not 0 where something was left over, is enough for rounding to see that the digits aren't exact.
def with_rest_marked(digits, rest):
    return digits * 10 + (1 if rest > 0 else 0)


def square_root(a):
    if a.kind == NAN:
        return nan()
    wanted = a.exponent // 2
    if is_zero(a):
        return finite(a.minus, 0, wanted)
    if a.minus == 1:
        return nan()
    if a.kind == INFINITE:
        return infinity(0)
    # Forty places, twenty in the root: more than sixteen digits even of the root of 1.
    scaled = a.coefficient * ten_to(a.exponent - 2 * wanted) * 10 ** 40
    lower = whole_root(scaled)
    digits = with_rest_marked(lower, scaled - lower * lower)
    return rounded(0, digits, wanted - 21, wanted)


def whole_root(n):
    # Newton's steps fall toward the root from above; the first whose square is not above n is the root rounded down.
    guess = ten_to((digit_count(n) + 1) // 2)
    while guess * guess > n:
        guess = (guess + n // guess) // 2
    return guess
