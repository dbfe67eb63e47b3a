"""Numbers written as texts."""

from sixteendigits.bits import INFINITE, NAN


def text_of(a):
    if a.kind == NAN:
        return "nan"
    sign = "-" if a.minus == 1 else ""
    if a.kind == INFINITE:
        return sign + "inf"
    return sign + str(a.coefficient) + "E" + str(a.exponent)
