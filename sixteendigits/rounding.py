"""Rounding: from an exact value to the number that answers it."""

from sixteendigits.bits import HIGHEST_EXPONENT, LOWEST_EXPONENT, finite, infinity

DIGITS = 16


def ten_to(n):
    power = 1
    for step in range(n):
        power = power * 10
    return power


def digit_count(n):
    return len(str(n))


def between(low, n, high):
    return max(low, min(n, high))


# The coefficient may be of any length and the exponent any: what is rounded here once must not be rounded before.
def rounded(minus, coefficient, exponent, wanted):
    if coefficient == 0:
        return finite(minus, 0, between(LOWEST_EXPONENT, wanted, HIGHEST_EXPONENT))
    while coefficient % 10 == 0:
        coefficient = coefficient // 10
        exponent = exponent + 1
    # Zeros behind the coefficient lower the exponent without changing the value, while sixteen digits have room.
    lowest = max(LOWEST_EXPONENT, exponent - (DIGITS - digit_count(coefficient)))
    highest = min(HIGHEST_EXPONENT, exponent)
    if lowest > highest:
        return nearest(minus, coefficient, exponent)
    chosen = between(lowest, wanted, highest)
    return finite(minus, coefficient * ten_to(exponent - chosen), chosen)


# Only for a value that no number has exactly: there the wanted exponent has no say.
def nearest(minus, coefficient, exponent):
    # Where there is nothing to drop, the value is past the largest, and the exponent alone tells so below.
    drop = max(0, digit_count(coefficient) - DIGITS, LOWEST_EXPONENT - exponent)
    kept = without_digits(coefficient, drop)
    exponent = exponent + drop
    if kept == 10 ** 16:
        kept = 10 ** 15
        exponent = exponent + 1
    if exponent > HIGHEST_EXPONENT:
        return infinity(minus)
    return finite(minus, kept, exponent)


def without_digits(coefficient, drop):
    # Less than a tenth of the last place is left; a power of ten for it might have a million digits.
    if drop > digit_count(coefficient):
        return 0
    return nearest_whole(coefficient, ten_to(drop))


def nearest_whole(numerator, denominator):
    kept = numerator // denominator
    twice_the_rest = numerator % denominator * 2
    if twice_the_rest > denominator or (twice_the_rest == denominator and kept % 2 == 1):
        return kept + 1
    return kept
