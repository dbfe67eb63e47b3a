"""What the tests share: numbers as bits, built from the document's words and not by the package."""

import decimal
import re
import struct

LARGEST = 10 ** 16 - 1
NAN = 8935141660703064064
INFINITY = 0x7800000000000000
MINUS = 1 << 63
MINUS_INFINITY = MINUS + INFINITY

# Python's own decimals with the same sixteen digits and exponents: a second opinion on every rounding.
CONTEXT = decimal.Context(prec=16, rounding=decimal.ROUND_HALF_EVEN, Emin=-383, Emax=384, clamp=1, traps=[])


def first_form(coefficient, exponent):
    return (exponent + 398) * 2 ** 53 + coefficient


def second_form(coefficient, exponent):
    return 3 * 2 ** 61 + (exponent + 398) * 2 ** 51 + coefficient - 2 ** 53


def number(coefficient, exponent=0, minus=False):
    """The bits of a number; a coefficient below 0 stands for a minus."""
    minus = minus or coefficient < 0
    size = abs(coefficient)
    if not (size <= LARGEST and -398 <= exponent <= 369):
        raise ValueError((coefficient, exponent))
    bits = first_form(size, exponent) if size < 2 ** 53 else second_form(size, exponent)
    return bits + MINUS if minus else bits


def zero(exponent=0, minus=False):
    return number(0, exponent, minus)


def is_allowed(bits):
    """Whether "Its 64 bits" allows them in an answer."""
    if not 0 <= bits < 2 ** 64:
        return False
    if bits == NAN:
        return True
    bits %= MINUS
    if bits == INFINITY:
        return True
    if bits >> 61 != 3:
        return True
    return bits >> 59 != 15 and bits % 2 ** 51 + 2 ** 53 <= LARGEST


def turned(bits):
    """The same bits with the other sign."""
    return bits ^ MINUS


def shown(bits):
    """A text for messages: the number that the bits tell."""
    return str(as_decimal(bits)) + " (" + hex(bits) + ")"


def as_decimal(bits):
    """Python's own decimal for bits of any form."""
    minus = bits >> 63
    if bits >> 61 & 3 != 3:
        coefficient, exponent = bits & 2 ** 53 - 1, (bits >> 53 & 1023) - 398
    elif bits >> 59 & 3 != 3:
        coefficient, exponent = 2 ** 53 + (bits & 2 ** 51 - 1), (bits >> 51 & 1023) - 398
    elif bits >> 58 & 1:
        return decimal.Decimal("NaN")
    else:
        return decimal.Decimal("-Infinity" if minus else "Infinity")
    if coefficient > LARGEST:
        coefficient = 0
    return decimal.Decimal((minus, tuple(int(digit) for digit in str(coefficient)), exponent))


def of_decimal(value):
    """The bits that answer one of Python's own decimals."""
    if value.is_nan():
        return NAN
    if value.is_infinite():
        return MINUS_INFINITY if value.is_signed() else INFINITY
    sign, digits, exponent = value.as_tuple()
    return number(int("".join(map(str, digits))), exponent, sign == 1)


def second_opinion(op, a, b):
    """What op is to answer, by way of Python's own decimals."""
    x, y = as_decimal(a), as_decimal(b)
    if op == 3 and x.is_finite() and y.is_infinite():
        # Here alone they differ: Python's decimals answer the lowest exponent, the document asks for 0.
        return zero(0, x.is_signed() != y.is_signed())
    return of_decimal((CONTEXT.add, CONTEXT.subtract, CONTEXT.multiply, CONTEXT.divide)[op](x, y))


def second_opinion_on_root(a):
    return of_decimal(CONTEXT.sqrt(as_decimal(a)))


def second_opinion_on_order(a, b):
    x, y = as_decimal(a), as_decimal(b)
    if x.is_nan() or y.is_nan():
        return 2
    return (x > y) - (x < y)


def second_opinion_on_placed(a, e):
    """For finite numbers and exponents alone: of others Python's decimals have other views."""
    return of_decimal(CONTEXT.quantize(as_decimal(a), decimal.Decimal((0, (1,), e))))


def second_opinion_on_whole(a):
    value = as_decimal(a)
    if value.is_finite() and -2 ** 63 <= int(value) < 2 ** 63:
        return int(value)
    return -2 ** 63


def second_opinion_on_from_whole(n):
    return of_decimal(CONTEXT.create_decimal(n))


def second_opinion_on_double(a):
    value = as_decimal(a)
    return 0x7FF8000000000000 if value.is_nan() else double_bits(float(value))


def double_bits(value):
    return struct.unpack(">Q", struct.pack(">d", value))[0]


def second_opinion_on_total(numbers):
    if len(numbers) > 1000:
        return NAN
    if not numbers:
        return zero(0)
    so_far = as_decimal(numbers[0])
    for bits in numbers[1:]:
        so_far = CONTEXT.add(so_far, as_decimal(bits))
    return of_decimal(so_far)


WRITTEN = re.compile(r"[+-]?(inf|([0-9]+\.?[0-9]*|\.[0-9]+)([Ee][+-]?[0-9]{1,6})?)")


def second_opinion_on_write(a):
    value = as_decimal(a)
    if value.is_nan():
        return "nan"
    sign, digits, exponent = value.as_tuple()
    if value.is_infinite():
        return "-inf" if sign else "inf"
    return f"{'-' * sign}{int(''.join(map(str, digits)))}E{exponent}"


def second_opinion_on_read(text):
    if len(text) > 400 or not WRITTEN.fullmatch(text):
        return NAN
    return of_decimal(CONTEXT.create_decimal(text))


def bytes_of(text):
    """A list of one byte for each sign; signs from 128 to 255 stand for these bytes."""
    return list(text.encode("latin-1"))


def is_list_of_one_int(answer):
    """True and False, which are ints of a kind, are not meant."""
    return type(answer) is list and len(answer) == 1 and type(answer[0]) is int


class OnlyRead(list):
    """A list that fails at any change."""

    def refuse(self, *given):
        raise AssertionError("what is handed in was changed")

    append = extend = insert = pop = remove = clear = sort = reverse = refuse
    __setitem__ = __delitem__ = __iadd__ = __imul__ = refuse


def drawn(source, near=False):
    """Bits of a finite number; with near, of a middling exponent, so that two of them meet."""
    coefficient = source.randrange(10 ** source.randint(1, 16))
    if source.randrange(4) == 0:
        coefficient = LARGEST - coefficient
    if source.randrange(4) == 0:
        places = 10 ** source.randint(0, 15)
        coefficient = coefficient // places * places
    exponent = source.randint(-20, 20) if near else source.randint(-398, 369)
    return number(coefficient, exponent, source.randrange(2) == 1)
