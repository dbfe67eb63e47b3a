"""Numbers brought to an exponent that is asked for."""

from sixteendigits.bits import FINITE, HIGHEST_EXPONENT, LARGEST_COEFFICIENT, LOWEST_EXPONENT, finite, nan
from sixteendigits.rounding import ten_to, without_digits


def with_exponent(a, exponent):
    if a.kind != FINITE:
        return a
    # Asked before anything is scaled: an exponent that is none may be billions away.
    if exponent < LOWEST_EXPONENT or exponent > HIGHEST_EXPONENT:
        return nan()
    coefficient = coefficient_at(a, exponent)
    if coefficient > LARGEST_COEFFICIENT:
        return nan()
    return finite(a.minus, coefficient, exponent)


def coefficient_at(a, exponent):
    if exponent < a.exponent:
        return a.coefficient * ten_to(a.exponent - exponent)
    return without_digits(a.coefficient, exponent - a.exponent)
