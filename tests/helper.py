"""What the tests share: numbers as bits, built from the document's words and not by the package."""

import decimal

LARGEST = 10 ** 16 - 1
NAN = 8935141660703064064
INFINITY = 0x7800000000000000
MINUS = 1 << 63
MINUS_INFINITY = MINUS + INFINITY

# Python's own decimals with the same sixteen digits and exponents: a second opinion on every rounding.
CONTEXT = decimal.Context(prec=16, rounding=decimal.ROUND_HALF_EVEN, Emin=-383, Emax=384, clamp=1, traps=[])


def number(coefficient, exponent=0, minus=False):
    """The bits of a number; a coefficient below 0 stands for a minus."""
    minus = minus or coefficient < 0
    size = abs(coefficient)
    if not (size <= LARGEST and -398 <= exponent <= 369):
        raise ValueError((coefficient, exponent))
    if size < 2 ** 53:
        bits = (exponent + 398) * 2 ** 53 + size
    else:
        bits = 3 * 2 ** 61 + (exponent + 398) * 2 ** 51 + size - 2 ** 53
    return bits + MINUS if minus else bits


def zero(exponent=0, minus=False):
    return number(0, exponent, minus)


def turned(bits):
    """The same bits with the other sign."""
    return bits ^ MINUS


def shown(bits):
    """A text for messages: the number that the bits tell."""
    return str(as_decimal(bits)) + " (" + hex(bits) + ")"


def as_decimal(bits):
    """Python's own decimal for bits of any form."""
    minus = bits >> 63
    if bits >> 61 & 3 != 3:
        coefficient, exponent = bits & 2 ** 53 - 1, (bits >> 53 & 1023) - 398
    elif bits >> 59 & 3 != 3:
        coefficient, exponent = 2 ** 53 + (bits & 2 ** 51 - 1), (bits >> 51 & 1023) - 398
    elif bits >> 58 & 1:
        return decimal.Decimal("NaN")
    else:
        return decimal.Decimal("-Infinity" if minus else "Infinity")
    if coefficient > LARGEST:
        coefficient = 0
    return decimal.Decimal((minus, tuple(int(digit) for digit in str(coefficient)), exponent))


def of_decimal(value):
    """The bits that answer one of Python's own decimals."""
    if value.is_nan():
        return NAN
    if value.is_infinite():
        return MINUS_INFINITY if value.is_signed() else INFINITY
    sign, digits, exponent = value.as_tuple()
    return number(int("".join(map(str, digits))), exponent, sign == 1)


def second_opinion(op, a, b):
    """What op is to answer, by way of Python's own decimals."""
    x, y = as_decimal(a), as_decimal(b)
    if op == 3 and x.is_finite() and y.is_infinite():
        # Here alone they differ: Python's decimals answer the lowest exponent, the document asks for 0.
        return zero(0, x.is_signed() != y.is_signed())
    return of_decimal((CONTEXT.add, CONTEXT.subtract, CONTEXT.multiply, CONTEXT.divide)[op](x, y))


def second_opinion_on_root(a):
    return of_decimal(CONTEXT.sqrt(as_decimal(a)))


def drawn(source, near=False):
    """Bits of a finite number; with near, of a middling exponent, so that two of them meet."""
    coefficient = source.randrange(10 ** source.randint(1, 16))
    if source.randrange(4) == 0:
        coefficient = LARGEST - coefficient
    if source.randrange(4) == 0:
        places = 10 ** source.randint(0, 15)
        coefficient = coefficient // places * places
    exponent = source.randint(-20, 20) if near else source.randint(-398, 369)
    return number(coefficient, exponent, source.randrange(2) == 1)
