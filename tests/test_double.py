"""Promise 7, double."""

import fractions
import random
import struct
import unittest

from sixteendigits.decimals import double
from sixteendigits.doubles import nearest_double
from tests.helper import (INFINITY, LARGEST, MINUS, MINUS_INFINITY, NAN, double_bits, drawn, first_form,
                          is_list_of_one_int, number, second_form, second_opinion_on_double, shown, turned, zero)

DOUBLE_INFINITY = 0x7FF0000000000000
DOUBLE_NAN = 9221120237041090560
LARGEST_DOUBLE = 0x7FEFFFFFFFFFFFFF
LEAST_NORMAL = 0x0010000000000000


class DoubleCase(unittest.TestCase):
    def check(self, a, wanted):
        answer = double(a)
        if answer != [wanted]:
            self.fail(f"double of {shown(a)}: {answer} where {wanted} ({hex(wanted)}) is asked")

    def check_both_signs(self, a, wanted):
        self.check(a, wanted)
        self.check(turned(a), wanted + MINUS)


class Exact(DoubleCase):
    def test_whole_ones(self):
        self.check_both_signs(number(1), 0x3FF0000000000000)
        self.check_both_signs(number(2), 0x4000000000000000)
        self.check_both_signs(number(3), 0x4008000000000000)
        self.check_both_signs(number(10), 0x4024000000000000)
        self.check_both_signs(number(1, 1), 0x4024000000000000)
        self.check_both_signs(number(1000, -2), 0x4024000000000000)
        self.check_both_signs(number(2 ** 53 - 1), 0x433FFFFFFFFFFFFF)
        self.check_both_signs(number(2 ** 53), 0x4340000000000000)
        self.check_both_signs(number(2 ** 53 + 2), 0x4340000000000001)
        self.check_both_signs(number(LARGEST - 1), 0x4341C37937E07FFF)
        self.check_both_signs(number(1, 22), double_bits(1e22))

    def test_others(self):
        self.check_both_signs(number(5, -1), 0x3FE0000000000000)
        self.check_both_signs(number(25, -2), 0x3FD0000000000000)
        self.check_both_signs(number(15, -1), 0x3FF8000000000000)
        self.check_both_signs(number(150, -2), 0x3FF8000000000000)
        self.check_both_signs(number(9765625, -10), 0x3F50000000000000)
        self.check_both_signs(number(1234567890125, -3), double_bits(1234567890.125))

    def test_powers_of_two(self):
        for power in range(54):
            self.check_both_signs(number(2 ** power), (1023 + power) << 52)
        for power in range(23):
            self.check_both_signs(number(5 ** power, -power), (1023 - power) << 52)

    def test_powers_of_ten(self):
        for power in range(23):
            self.check_both_signs(number(1, power), double_bits(float(10 ** power)))


class Nearest(DoubleCase):
    def test_no_double_has_them(self):
        self.check_both_signs(number(1, -1), 0x3FB999999999999A)
        self.check_both_signs(number(3, -1), 0x3FD3333333333333)
        self.check_both_signs(number(3333333333333333, -16), double_bits(0.3333333333333333))
        self.check_both_signs(number(3141592653589793, -15), 0x400921FB54442D18)
        self.check_both_signs(number(1, 100), double_bits(1e100))
        self.check_both_signs(number(1, -100), double_bits(1e-100))
        self.check_both_signs(number(LARGEST, -16), 0x3FEFFFFFFFFFFFFF)
        self.check_both_signs(number(LARGEST, -15), double_bits(9.999999999999999))

    def test_just_at_the_half(self):
        # From 2^53 to 2^54 doubles are the even whole numbers: the odd ones are at the half.
        base = 0x4340000000000000
        self.check_both_signs(number(2 ** 53 + 1), base)
        self.check_both_signs(number(2 ** 53 + 3), base + 2)
        self.check_both_signs(number(2 ** 53 + 5), base + 2)
        self.check_both_signs(number(2 ** 53 + 7), base + 4)
        self.check_both_signs(number(LARGEST), double_bits(1e16))
        self.check_both_signs(number(LARGEST - 2), double_bits(9999999999999996.0))

    def test_just_at_the_half_with_exponents_above_0(self):
        # 5^23 has 54 bits and is odd, so that 10^23 is at the half.
        self.check_both_signs(number(1, 23), 0x44B52D02C7E14AF6)
        self.check_both_signs(number(10 ** 15, 8), 0x44B52D02C7E14AF6)
        # 5 x 1801439850948199 is 2^53 + 3, and 5 x 1801439850948201 is 2^53 + 13.
        self.check_both_signs(number(1801439850948199, 1), 0x4350000000000002)
        self.check_both_signs(number(1801439850948201, 1), 0x4350000000000006)

    def test_below_and_above_the_half(self):
        # From 2^55 to 2^56 doubles are eight apart and numbers ten: some are below the half, some at it, some above.
        for value in range(36028797018964000, 36028797018964400, 10):
            below, rest = value // 8, value % 8
            nearest = below + 1 if rest > 4 or (rest == 4 and below % 2 == 1) else below
            self.check_both_signs(number(value // 10, 1), double_bits(nearest * 8.0))
        # Around 10^23, which is at the half between two that are 2^24 apart: less 10^7, and 10^8 more.
        self.check_both_signs(number(9999999999999999, 7), 0x44B52D02C7E14AF6)
        self.check_both_signs(number(1000000000000001, 8), 0x44B52D02C7E14AF7 + 5)

    def test_rounding_up_brings_the_next_power_of_two(self):
        # Each is a little less than the power of two, and less than half of the last bit below it.
        for power, coefficient, exponent in ((73, 9444732965739290, 6), (-30, 9313225746154785, -25),
                                             (-50, 8881784197001252, -31), (983, 8174961907854212, 280),
                                             (-1070, 7905050333459944, -338)):
            value = fractions.Fraction(coefficient) * fractions.Fraction(10) ** exponent
            self.assertLess(value, fractions.Fraction(2) ** power)
            self.check_both_signs(number(coefficient, exponent), double_bits(2.0 ** power))

    def test_half_to_even_brings_the_next_power_of_two(self):
        # 2^54 - 1 itself has seventeen digits, so no number is here at the half: the fraction is handed on.
        self.assertEqual(nearest_double(2 ** 54 - 1, 1), 0x4350000000000000)
        self.assertEqual(nearest_double(2 ** 54 - 1, 2 ** 54), 0x3FF0000000000000)
        self.assertEqual(nearest_double(2 ** 54 - 3, 1), 0x434FFFFFFFFFFFFE)


class Largest(DoubleCase):
    # The largest double is 1.79769313486231570..E308, the half past it 1.79769313486231580..E308: no number of sixteen
    # digits is between them, or at either.
    def test_the_numbers_next_to_it(self):
        self.check_both_signs(number(1797693134862315, 293), LARGEST_DOUBLE - 4)
        self.check_both_signs(number(1797693134862314, 293), LARGEST_DOUBLE - 9)
        self.check_both_signs(number(1797693134862316, 293), DOUBLE_INFINITY)
        self.check_both_signs(number(1797693134862317, 293), DOUBLE_INFINITY)

    def test_the_largest_and_around_the_half_past_it(self):
        half = 2 ** 1024 - 2 ** 970
        self.assertEqual(nearest_double(2 ** 1024 - 2 ** 971, 1), LARGEST_DOUBLE)
        self.assertEqual(nearest_double(half - 1, 1), LARGEST_DOUBLE)
        self.assertEqual(nearest_double(half * 10 ** 60 - 1, 10 ** 60), LARGEST_DOUBLE)
        self.assertEqual(nearest_double(half, 1), DOUBLE_INFINITY)
        self.assertEqual(nearest_double(half + 1, 1), DOUBLE_INFINITY)
        self.assertEqual(nearest_double(2 ** 1024, 1), DOUBLE_INFINITY)

    def test_far_past_it(self):
        self.check_both_signs(number(1, 308), double_bits(1e308))
        self.check_both_signs(number(2, 308), DOUBLE_INFINITY)
        for exponent in range(309, 370):
            self.check_both_signs(number(1, exponent), DOUBLE_INFINITY)
            self.check_both_signs(number(LARGEST, exponent), DOUBLE_INFINITY)
        self.check_both_signs(number(10 ** 15, 293), double_bits(1e308))
        self.check_both_signs(number(LARGEST, 292), double_bits(9.999999999999999e307))
        self.check_both_signs(number(LARGEST, 293), DOUBLE_INFINITY)


class Denormals(DoubleCase):
    # The least that is none is 2.22507385850720138..E-308, and doubles are there 0.5E-323 apart.
    def test_the_numbers_around_the_least_that_is_none(self):
        self.check_both_signs(number(2225073858507200, -323), LEAST_NORMAL - 3)
        self.check_both_signs(number(2225073858507201, -323), LEAST_NORMAL - 1)
        self.check_both_signs(number(2225073858507202, -323), LEAST_NORMAL + 1)
        self.check_both_signs(number(2225073858507203, -323), LEAST_NORMAL + 3)
        self.check_both_signs(number(2225073858507204, -323), LEAST_NORMAL + 5)

    def test_the_largest_and_the_least_that_is_none(self):
        self.assertEqual(nearest_double(1, 2 ** 1022), LEAST_NORMAL)
        self.assertEqual(nearest_double(2 ** 52 - 1, 2 ** 1074), LEAST_NORMAL - 1)
        self.assertEqual(nearest_double(2 ** 52 + 1, 2 ** 1074), LEAST_NORMAL + 1)
        self.assertEqual(nearest_double(2 ** 53 - 1, 2 ** 1075), LEAST_NORMAL)
        self.assertEqual(nearest_double((2 ** 53 - 1) * 10 ** 30 - 1, 2 ** 1075 * 10 ** 30), LEAST_NORMAL - 1)
        self.assertEqual(nearest_double(2 ** 53 + 1, 2 ** 1075), LEAST_NORMAL)
        self.assertEqual(nearest_double((2 ** 53 + 1) * 10 ** 30 + 1, 2 ** 1075 * 10 ** 30), LEAST_NORMAL + 1)

    def test_denormals(self):
        self.check_both_signs(number(1, -308), 0x000730D67819E8D2)
        self.check_both_signs(number(1, -310), double_bits(1e-310))
        self.check_both_signs(number(1, -320), 2024)
        self.check_both_signs(number(1, -323), 2)
        self.check_both_signs(number(15, -324), 3)
        self.check_both_signs(number(5, -324), 1)
        self.check_both_signs(number(9881312916824931, -339), 2)
        self.check_both_signs(number(7410984687618698, -339), 1)
        self.check_both_signs(number(7410984687618699, -339), 2)
        self.check_both_signs(number(1235164114603116, -338), 2)
        self.check_both_signs(number(1235164114603117, -338), 3)

    def test_the_least_and_around_half_of_it(self):
        # 4.94065645841246544..E-324, and its half 2.47032822920623272..E-324.
        self.check_both_signs(number(4940656458412465, -339), 1)
        self.check_both_signs(number(4940656458412466, -339), 1)
        self.check_both_signs(number(3, -324), 1)
        self.check_both_signs(number(2470328229206233, -339), 1)
        self.check_both_signs(number(2470328229206232, -339), 0)
        self.check_both_signs(number(2, -324), 0)

    def test_just_at_halves(self):
        # Such a half has more than seven hundred digits, and no number has it: the fraction is handed on.
        self.assertEqual(nearest_double(1, 2 ** 1075), 0)
        self.assertEqual(nearest_double(10 ** 20 + 1, 10 ** 20 * 2 ** 1075), 1)
        self.assertEqual(nearest_double(10 ** 20 - 1, 10 ** 20 * 2 ** 1075), 0)
        self.assertEqual(nearest_double(3, 2 ** 1075), 2)
        self.assertEqual(nearest_double(5, 2 ** 1075), 2)
        self.assertEqual(nearest_double(7, 2 ** 1075), 4)

    def test_far_below(self):
        for exponent in range(-398, -340):
            for coefficient in (1, 5, LARGEST):
                self.check_both_signs(number(coefficient, exponent), 0)
        self.check_both_signs(number(1, -324), 0)
        self.check_both_signs(number(1, -398), 0)


class Others(DoubleCase):
    def test_zeros(self):
        for exponent in (-398, -397, -324, -1, 0, 1, 22, 309, 368, 369):
            self.check(zero(exponent), 0)
            self.check(zero(exponent, True), MINUS)

    def test_infinities(self):
        self.check(INFINITY, DOUBLE_INFINITY)
        self.check(MINUS_INFINITY, DOUBLE_INFINITY + MINUS)

    def test_nan(self):
        self.check(NAN, DOUBLE_NAN)

    def test_the_least_and_the_greatest_exponent(self):
        for coefficient in (1, 10 ** 15, LARGEST):
            self.check_both_signs(number(coefficient, -398), 0)
            self.check_both_signs(number(coefficient, 369), DOUBLE_INFINITY)
        self.check_both_signs(number(0, -398), 0)
        self.check_both_signs(number(0, 369), 0)


class HandedIn(DoubleCase):
    def test_both_forms_at_their_ends(self):
        for coefficient in (0, 1, 10 ** 15, 2 ** 51, 2 ** 52, 2 ** 53 - 1):
            self.check_both_signs(first_form(coefficient, 0), double_bits(float(coefficient)))
            self.check_both_signs(first_form(coefficient, -3), double_bits(coefficient / 1000))
        for coefficient in (2 ** 53, 2 ** 53 + 2, LARGEST - 1):
            self.check_both_signs(second_form(coefficient, 0), double_bits(float(coefficient)))
            self.check_both_signs(second_form(coefficient, -3), double_bits(coefficient / 1000))

    def test_coefficients_above_the_largest_count_as_0(self):
        for coefficient in (10 ** 16, 10 ** 16 + 1, 2 ** 53 + 2 ** 50, 2 ** 53 + 2 ** 51 - 1):
            for exponent in (-398, -1, 0, 1, 369):
                self.check_both_signs(second_form(coefficient, exponent), 0)

    def test_infinities_and_nan_with_other_bits_set(self):
        for other in (0, 1, 2 ** 50, 2 ** 53, 2 ** 57, 2 ** 58 - 1):
            self.check(INFINITY + other, DOUBLE_INFINITY)
            self.check(MINUS_INFINITY + other, DOUBLE_INFINITY + MINUS)
            self.check(NAN + other, DOUBLE_NAN)
            self.check(NAN + other + MINUS, DOUBLE_NAN)


class SecondOpinion(DoubleCase):
    def test_every_exponent(self):
        for exponent in range(-398, 370):
            for coefficient in (1, 7, 10 ** 15, 2 ** 53 - 1, 2 ** 53 + 1, LARGEST):
                a = number(coefficient, exponent)
                self.check_both_signs(a, second_opinion_on_double(a))

    def test_doubles_in_sixteen_digits(self):
        source = random.Random(7)
        for turn in range(3000):
            value = struct.unpack(">d", struct.pack(">Q", source.randrange(DOUBLE_INFINITY)))[0]
            digits, exponent = f"{value:.15e}".split("e")
            a = number(int(digits.replace(".", "")), int(exponent) - 15)
            self.check_both_signs(a, second_opinion_on_double(a))

    def test_drawn_numbers(self):
        source = random.Random(77)
        for turn in range(3000):
            a = drawn(source, turn % 3 == 0)
            self.check(a, second_opinion_on_double(a))

    def test_any_bits(self):
        source = random.Random(777)
        for turn in range(2000):
            a = source.getrandbits(64)
            self.check(a, second_opinion_on_double(a))


class GivenBack(unittest.TestCase):
    HANDED_IN = (0, 1, 2 ** 64 - 1, zero(), zero(5, True), number(1), number(-1), number(1, -1), number(1, 369),
                 number(5, -324), number(1, -398), INFINITY, MINUS_INFINITY, NAN)

    def test_a_list_of_one_int(self):
        for a in self.HANDED_IN:
            self.assertTrue(is_list_of_one_int(double(a)), shown(a))

    def test_the_same_again(self):
        first = [double(a) for a in self.HANDED_IN]
        for answer in [double(a) for a in self.HANDED_IN]:
            answer.append("changed by the caller")
        self.assertEqual([double(a) for a in reversed(self.HANDED_IN)], first[::-1])


if __name__ == "__main__":
    unittest.main()
