"""The order of numbers by their value."""

from sixteendigits.arithmetic import signed_coefficient
from sixteendigits.bits import INFINITE, NAN

NO_ORDER = 2


def compared(a, b):
    if a.kind == NAN or b.kind == NAN:
        return NO_ORDER
    if a.kind == INFINITE or b.kind == INFINITE:
        return sign_of(side(a) - side(b))
    lower = min(a.exponent, b.exponent)
    return sign_of(signed_coefficient(a, lower) - signed_coefficient(b, lower))


# All numbers lie between the infinities: beside one of these, how large a number is has no say.
def side(a):
    if a.kind != INFINITE:
        return 0
    return -1 if a.minus == 1 else 1


def sign_of(n):
    if n < 0:
        return -1
    return 1 if n > 0 else 0
