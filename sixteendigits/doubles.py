"""Numbers made doubles: the 64 bits of IEEE 754's binary numbers."""

from sixteendigits.bits import INFINITE, NAN
from sixteendigits.rounding import nearest_whole, ten_to

INFINITE_DOUBLE = 9218868437227405312
NAN_DOUBLE = 9221120237041090560

# The last bit of the least double stands for two to this power, and no double's stands for less.
LEAST_UNIT = -1074


def double_of(a):
    if a.kind == NAN:
        return NAN_DOUBLE
    sign = a.minus << 63
    if a.kind == INFINITE:
        return sign + INFINITE_DOUBLE
    return sign + nearest_double(a.coefficient * ten_to(max(0, a.exponent)), ten_to(max(0, -a.exponent)))


# A value is handed in as a fraction, since what is rounded here once must not be rounded before.
def nearest_double(numerator, denominator):
    if numerator == 0:
        return 0
    unit = max(LEAST_UNIT, unit_of_53_bits(numerator, denominator))
    units = nearest_whole(numerator << max(0, -unit), denominator << max(0, unit))
    # The first of 53 bits isn't stored: added here, it makes the exponent's field one more than a denormal's, and where
    # rounding brought the next power of two, one more again. Past the largest, all that follows is the infinity.
    return min(INFINITE_DOUBLE, ((unit - LEAST_UNIT) << 52) + units)


def unit_of_53_bits(numerator, denominator):
    # The lengths alone leave one bit open: of this unit the value has 53 or 54 bits.
    unit = numerator.bit_length() - denominator.bit_length() - 53
    if (numerator << max(0, -unit)) >= (denominator << (max(0, unit) + 53)):
        return unit + 1
    return unit
