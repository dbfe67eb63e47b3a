"""Numbers, and the 64 bits that tell them: IEEE 754's binary encoding of 64-bit decimals."""

FINITE = 0
INFINITE = 1
NAN = 2

LARGEST_COEFFICIENT = 9999999999999999
LOWEST_EXPONENT = -398
HIGHEST_EXPONENT = 369


# minus is 1 or 0, as bit 63 is, so that signs combine as bits do. Only the finite have a coefficient and an exponent.
class Number:
    def __init__(self, kind, minus, coefficient, exponent):
        self.kind = kind
        self.minus = minus
        self.coefficient = coefficient
        self.exponent = exponent


def finite(minus, coefficient, exponent):
    return Number(FINITE, minus, coefficient, exponent)


def infinity(minus):
    return Number(INFINITE, minus, 0, 0)


def nan():
    return Number(NAN, 0, 0, 0)


def is_zero(number):
    return number.kind == FINITE and number.coefficient == 0


def number_of(bits):
    minus = bits >> 63
    if (bits >> 61) & 3 != 3:
        return finite(minus, bits % 2 ** 53, exponent_of((bits >> 53) % 2 ** 10))
    if (bits >> 59) & 3 != 3:
        coefficient = 2 ** 53 + bits % 2 ** 51
        # The second form has room for more than sixteen digits; such coefficients count as 0.
        if coefficient > LARGEST_COEFFICIENT:
            coefficient = 0
        return finite(minus, coefficient, exponent_of((bits >> 51) % 2 ** 10))
    if (bits >> 58) & 1 == 1:
        return nan()
    return infinity(minus)


def exponent_of(field):
    return field + LOWEST_EXPONENT


def bits_of(number):
    if number.kind == NAN:
        return 31 << 58
    sign = number.minus << 63
    if number.kind == INFINITE:
        return sign + (30 << 58)
    field = number.exponent - LOWEST_EXPONENT
    if number.coefficient < 2 ** 53:
        return sign + (field << 53) + number.coefficient
    return sign + (3 << 61) + (field << 51) + number.coefficient - 2 ** 53
