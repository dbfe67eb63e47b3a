"""Promise 1 and "Rounded": each op at the edges of sixteen digits and of the exponents."""

import unittest

from tests.helper import INFINITY, LARGEST, number, turned, zero
from tests.test_op import DIFFERENCE, OpCase, PRODUCT, QUOTIENT, SUM

TOP = number(LARGEST, 369)


class RoundedCase(OpCase):
    def check_both_signs(self, which, a, b, wanted):
        """The answer for a and b, and its opposite where that is what turned signs lead to."""
        self.check(which, a, b, wanted)
        if which in (SUM, DIFFERENCE):
            self.check(which, turned(a), turned(b), turned(wanted))
        else:
            self.check(which, turned(a), b, turned(wanted))
            self.check(which, a, turned(b), turned(wanted))
            self.check(which, turned(a), turned(b), wanted)

    def check_sum(self, a, b, wanted):
        """The same sum by op 0 and by op 1, in either order."""
        self.check_both_signs(SUM, a, b, wanted)
        self.check_both_signs(SUM, b, a, wanted)
        self.check_both_signs(DIFFERENCE, a, turned(b), wanted)
        self.check_both_signs(DIFFERENCE, b, turned(a), wanted)

    def check_product(self, a, b, wanted):
        self.check_both_signs(PRODUCT, a, b, wanted)
        self.check_both_signs(PRODUCT, b, a, wanted)

    def check_quotient(self, a, b, wanted):
        self.check_both_signs(QUOTIENT, a, b, wanted)


class Sums(RoundedCase):
    def test_exact_with_the_wanted_exponent(self):
        self.check_sum(number(100, -2), number(200, -2), number(300, -2))
        self.check_sum(number(1, 15), number(1), number(1000000000000001))
        self.check_sum(number(5, 3), zero(-10), number(50000000000000, -10))
        self.check_sum(number(LARGEST - 1, 369), number(1, 369), TOP)

    def test_exact_with_an_exponent_near_the_wanted_one(self):
        self.check_sum(number(1, 20), zero(0), number(10 ** 15, 5))
        self.check_sum(number(1, 369), zero(-398), number(10 ** 15, 354))
        self.check_sum(number(LARGEST), number(1), number(10 ** 15, 1))
        self.check_sum(number(9999999999999990), number(20), number(1000000000000001, 1))
        self.check_sum(TOP, zero(-398), TOP)
        self.check_sum(number(1, 16), number(100, -1), number(1000000000000001, 1))

    def test_below_above_and_at_the_half(self):
        odd, even = 1000000000000001, 1000000000000002
        self.check_sum(number(odd), number(4, -1), number(odd))
        self.check_sum(number(odd), number(6, -1), number(even))
        self.check_sum(number(odd), number(5, -1), number(even))
        self.check_sum(number(even), number(5, -1), number(even))
        self.check_sum(number(even), number(-5, -1), number(even))
        self.check_sum(number(even), number(4999999999999999, -16), number(even))
        self.check_sum(number(even), number(5000000000000001, -16), number(even + 1))
        self.check_sum(number(LARGEST), number(LARGEST), number(2 * 10 ** 15, 1))
        self.check_sum(number(LARGEST), number(LARGEST - 4), number(1999999999999999, 1))
        self.check_sum(number(LARGEST), number(6), number(10 ** 15, 1))
        self.check_sum(number(LARGEST), number(16), number(1000000000000002, 1))

    def test_far_apart(self):
        self.check_sum(number(10 ** 15), number(1, -398), number(10 ** 15))
        self.check_sum(number(1, 369), number(1, -398), number(10 ** 15, 354))
        self.check_sum(number(1, 369), number(-1, -398), number(10 ** 15, 354))
        self.check_sum(number(123, 5), number(7, -300), number(1230000000000000, -8))

    def test_rounding_brings_a_digit_more(self):
        self.check_sum(number(10 ** 15), number(-5, -2), number(10 ** 15))
        self.check_sum(number(10 ** 15), number(-6, -2), number(LARGEST, -1))
        self.check_sum(number(LARGEST), number(5, -1), number(10 ** 15, 1))
        self.check_sum(number(LARGEST), number(4, -1), number(LARGEST))

    def test_lowest_exponent(self):
        self.check_sum(number(1, -398), number(2, -398), number(3, -398))
        self.check_sum(number(1000000000000001, -398), number(-10 ** 15, -398), number(1, -398))
        self.check_sum(number(1, -397), number(-9, -398), number(1, -398))
        self.check_sum(number(LARGEST, -398), number(6, -398), number(10 ** 15, -397))
        self.check_sum(number(10 ** 15, -397), number(-1, -398), number(LARGEST, -398))

    def test_past_the_largest(self):
        self.check_sum(TOP, number(1, 369), INFINITY)
        self.check_sum(TOP, TOP, INFINITY)
        self.check_sum(TOP, number(5, 368), INFINITY)
        self.check_sum(TOP, number(5000000000000001, 353), INFINITY)
        self.check_sum(TOP, number(4999999999999999, 353), TOP)
        self.check_sum(TOP, number(4, 368), TOP)
        self.check_sum(TOP, number(1, -398), TOP)


class Products(RoundedCase):
    def test_exact_with_the_wanted_exponent(self):
        self.check_product(number(100, -2), number(20, -2), number(2000, -4))
        self.check_product(number(10 ** 8 + 1), number(10 ** 8 - 1), number(LARGEST))
        self.check_product(number(3, -200), number(5, -198), number(15, -398))
        self.check_product(number(3, 200), number(50, 169), number(150, 369))

    def test_exact_with_an_exponent_near_the_wanted_one(self):
        self.check_product(number(5 * 10 ** 15), number(20), number(10 ** 15, 2))
        self.check_product(number(5 * 10 ** 15), number(2), number(10 ** 15, 1))
        self.check_product(number(1, 369), number(1, 5), number(100000, 369))
        self.check_product(number(1, 300), number(1, 84), number(10 ** 15, 369))
        self.check_product(number(7, 369), number(10, 369 - 356), number(70 * 10 ** 13, 369))
        self.check_product(number(100, -398), number(1, -2), number(1, -398))
        self.check_product(number(1200, -200), number(5, -200), number(60, -398))
        self.check_product(number(10 ** 15, -398), number(1, -15), number(1, -398))

    def test_below_above_and_at_the_half(self):
        self.check_product(number(2857142857142857), number(5), number(1428571428571428, 1))
        self.check_product(number(2857142857142859), number(5), number(1428571428571430, 1))
        self.check_product(number(3333333333333333), number(4), number(1333333333333333, 1))
        self.check_product(number(3333333333333334), number(4), number(1333333333333334, 1))
        self.check_product(number(LARGEST), number(LARGEST), number(LARGEST - 1, 16))
        self.check_product(number(10 ** 15 + 1), number(10 ** 15 + 1), number(1000000000000002, 15))

    def test_rounding_brings_a_digit_more(self):
        # 10^17 - 1, 10^17 - 5 and 10^17 - 6: above, at and below the half beneath a power of ten.
        self.check_product(number(18645507), number(5363222357), number(10 ** 15, 2))
        self.check_product(number(462378245), number(216273151), number(10 ** 15, 2))
        self.check_product(number(7145878), number(13994081623), number(LARGEST, 1))

    def test_lowest_exponent(self):
        self.check_product(number(1234567890123456, -398), number(1, -3), number(1234567890123, -398))
        self.check_product(number(1234567890123456, -398), number(1, -2), number(12345678901235, -398))
        self.check_product(number(15, -398), number(1, -1), number(2, -398))
        self.check_product(number(25, -398), number(1, -1), number(2, -398))
        self.check_product(number(2500000000000001, -398), number(1, -15), number(3, -398))
        self.check_product(number(LARGEST, -398), number(1, -1), number(10 ** 15, -398))
        self.check_product(number(18645507, -200), number(5363222357, -199), number(10 ** 15, -397))
        self.check_product(number(462378245, -200), number(216273151, -200), number(10 ** 15, -398))

    def test_down_to_0(self):
        self.check_product(number(6, -398), number(1, -1), number(1, -398))
        self.check_product(number(5, -398), number(1, -1), zero(-398))
        self.check_product(number(4, -398), number(1, -1), zero(-398))
        self.check_product(number(5000000000000001, -398), number(1, -16), number(1, -398))
        self.check_product(number(5000000000000000, -398), number(1, -16), zero(-398))
        self.check_product(number(LARGEST, -398), number(LARGEST, -398), zero(-398))
        self.check_product(number(1, -398), number(1, -398), zero(-398))

    def test_past_the_largest(self):
        self.check_product(number(1, 300), number(1, 85), INFINITY)
        self.check_product(number(1, 369), number(1, 369), INFINITY)
        self.check_product(TOP, TOP, INFINITY)
        self.check_product(TOP, number(1), TOP)
        self.check_product(TOP, number(10, -1), TOP)
        self.check_product(number(18645507, 184), number(5363222357, 184), INFINITY)
        self.check_product(number(462378245, 184), number(216273151, 184), INFINITY)
        self.check_product(number(7145878, 184), number(13994081623, 184), TOP)

    def test_0_whose_wanted_exponent_is_no_exponent(self):
        self.check_product(zero(-398), number(1, -1), zero(-398))
        self.check_product(zero(-398), zero(-398), zero(-398))
        self.check_product(zero(-200), number(LARGEST, -199), zero(-398))
        self.check_product(zero(-200), number(LARGEST, -198), zero(-398))
        self.check_product(zero(369), number(1, 1), zero(369))
        self.check_product(zero(369), zero(369), zero(369))
        self.check_product(zero(200), number(LARGEST, 170), zero(369))
        self.check_product(zero(200), number(LARGEST, 168), zero(368))


class Quotients(RoundedCase):
    def test_exact_with_the_wanted_exponent(self):
        self.check_quotient(number(600, -2), number(2), number(300, -2))
        self.check_quotient(number(1000), number(10), number(100))
        self.check_quotient(number(7, -398), number(7, -398), number(1))
        self.check_quotient(number(LARGEST), number(1), number(LARGEST))
        self.check_quotient(number(100, -1), number(10, 4), number(10, -5))

    def test_exact_with_an_exponent_near_the_wanted_one(self):
        self.check_quotient(number(1), number(2), number(5, -1))
        self.check_quotient(number(10), number(4), number(25, -1))
        self.check_quotient(number(1), number(8, 5), number(125, -8))
        self.check_quotient(number(1), number(2 ** 22), number(5 ** 22, -22))
        self.check_quotient(number(1), number(5 ** 16), number(2 ** 16, -16))
        self.check_quotient(number(1), number(9765625 * 10 ** 9), number(1024, -19))
        self.check_quotient(number(1, 369), number(1, -10), number(10 ** 10, 369))
        self.check_quotient(number(1, 369), number(1, -15), number(10 ** 15, 369))
        self.check_quotient(number(20, -398), number(2, 1), number(1, -398))
        self.check_quotient(number(6 * 10 ** 15, -398), number(6, 15), number(1, -398))

    def test_below_above_and_at_the_half(self):
        self.check_quotient(number(1), number(3), number(3333333333333333, -16))
        self.check_quotient(number(2), number(3), number(6666666666666667, -16))
        self.check_quotient(number(LARGEST), number(2), number(5 * 10 ** 15))
        self.check_quotient(number(LARGEST - 2), number(2), number(4999999999999998))
        self.check_quotient(number(1), number(2 ** 23), number(1192092895507812, -22))
        self.check_quotient(number(3), number(2 ** 23), number(3576278686523438, -22))
        self.check_quotient(number(1), number(LARGEST), number(10 ** 15, -31))
        self.check_quotient(number(LARGEST - 1), number(LARGEST), number(LARGEST, -16))
        self.check_quotient(number(1, 5), number(7, -9), number(1428571428571429, -2))

    def test_lowest_exponent(self):
        self.check_quotient(number(1234567890123456, -398), number(1, 3), number(1234567890123, -398))
        self.check_quotient(number(3, -398), number(2), number(2, -398))
        self.check_quotient(number(5, -398), number(2), number(2, -398))
        self.check_quotient(number(7, -398), number(3), number(2, -398))
        self.check_quotient(number(LARGEST, -398), number(1, 1), number(10 ** 15, -398))
        self.check_quotient(number(2, -390), number(3, 3), number(66667, -398))

    def test_down_to_0(self):
        self.check_quotient(number(2, -398), number(3), number(1, -398))
        self.check_quotient(number(1, -398), number(2), zero(-398))
        self.check_quotient(number(1, -398), number(3), zero(-398))
        self.check_quotient(number(1, -398), number(1999999999999999, -15), number(1, -398))
        self.check_quotient(number(1, -398), number(2000000000000001, -15), zero(-398))
        self.check_quotient(number(1, -385), number(LARGEST), zero(-398))
        self.check_quotient(number(1, -398), TOP, zero(-398))

    def test_past_the_largest(self):
        # A quotient is never so near beneath a power of ten that rounding alone brings it past the largest.
        self.check_quotient(number(1, 369), number(1, -16), INFINITY)
        self.check_quotient(TOP, number(1, -398), INFINITY)
        self.check_quotient(TOP, number(9, -1), INFINITY)
        self.check_quotient(number(5 * 10 ** 15, 369), number(5, -1), INFINITY)
        self.check_quotient(TOP, number(1), TOP)
        self.check_quotient(number(LARGEST - 1, 369), number(LARGEST, -16), TOP)

    def test_0_whose_wanted_exponent_is_no_exponent(self):
        self.check_quotient(zero(-398), number(1, 1), zero(-398))
        self.check_quotient(zero(-398), number(7, 369), zero(-398))
        self.check_quotient(zero(-200), number(LARGEST, 199), zero(-398))
        self.check_quotient(zero(-200), number(LARGEST, 197), zero(-397))
        self.check_quotient(zero(369), number(1, -1), zero(369))
        self.check_quotient(zero(369), number(7, -398), zero(369))
        self.check_quotient(zero(200), number(LARGEST, -170), zero(369))
        self.check_quotient(zero(200), number(LARGEST, -168), zero(368))


if __name__ == "__main__":
    unittest.main()
