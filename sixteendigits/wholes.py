"""Numbers made whole numbers, and whole numbers made numbers."""

from sixteendigits.bits import FINITE
from sixteendigits.rounding import rounded, ten_to

LEAST_WHOLE = -9223372036854775808
GREATEST_WHOLE = 9223372036854775807


def whole_part(a):
    if a.kind != FINITE:
        return LEAST_WHOLE
    # The size alone is divided: // rounds down, which is toward 0 only for what isn't below 0.
    size = whole_size(a)
    whole = -size if a.minus == 1 else size
    if whole < LEAST_WHOLE or whole > GREATEST_WHOLE:
        return LEAST_WHOLE
    return whole


def whole_size(a):
    if a.exponent < 0:
        return a.coefficient // ten_to(-a.exponent)
    return a.coefficient * ten_to(a.exponent)


def number_of_whole(n):
    return rounded(1 if n < 0 else 0, abs(n), 0, 0)
