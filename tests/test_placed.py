"""Promise 4, placed."""

import random
import unittest

from sixteendigits.decimals import placed
from tests.helper import (INFINITY, LARGEST, MINUS, MINUS_INFINITY, NAN, drawn, first_form, is_allowed,
                          is_list_of_one_int, number, second_form, second_opinion_on_placed, shown, turned, zero)

NO_EXPONENTS = (-2147483648, -2147483647, -100000, -400, -399, 370, 371, 100000, 2147483646, 2147483647)
EXPONENTS_AT_THE_ENDS = (-398, -397, 368, 369)
SIGNS = (False, True)


class PlacedCase(unittest.TestCase):
    def check(self, a, e, wanted):
        answer = placed(a, e)
        if answer != [wanted]:
            self.fail(f"{shown(a)} placed at {e}: {answer} where {shown(wanted)} is asked")

    def check_both_signs(self, a, e, wanted):
        self.check(a, e, wanted)
        self.check(turned(a), e, NAN if wanted == NAN else turned(wanted))


class Numbers(PlacedCase):
    def test_its_own_exponent(self):
        for exponent in EXPONENTS_AT_THE_ENDS + (-1, 0, 1):
            for size in (0, 1, 10, 10 ** 15, 2 ** 53 - 1, 2 ** 53, LARGEST - 1, LARGEST):
                self.check_both_signs(number(size, exponent), exponent, number(size, exponent))

    def test_a_lower_exponent(self):
        self.check_both_signs(number(25, -1), -2, number(250, -2))
        self.check_both_signs(number(1), -15, number(10 ** 15, -15))
        self.check_both_signs(number(1, 369), 354, number(10 ** 15, 354))
        self.check_both_signs(number(3, -397), -398, number(30, -398))
        self.check_both_signs(number(999999999999999, 1), 0, number(9999999999999990))
        self.check_both_signs(number(900719925474099, 1), 0, number(9007199254740990))
        self.check_both_signs(number(900719925474100, 1), 0, number(9007199254741000))

    def test_a_lower_exponent_that_asks_for_more_than_sixteen_digits(self):
        self.check_both_signs(number(1), -16, NAN)
        self.check_both_signs(number(1), -398, NAN)
        self.check_both_signs(number(10 ** 15), -1, NAN)
        self.check_both_signs(number(LARGEST), -1, NAN)
        self.check_both_signs(number(1, 369), 353, NAN)
        self.check_both_signs(number(1, 369), -398, NAN)
        self.check_both_signs(number(LARGEST, 369), -398, NAN)
        self.check_both_signs(number(1000000000000000, 1), 0, NAN)
        self.check_both_signs(number(1, -382), -398, NAN)

    def test_the_last_that_fits_and_the_first_that_does_not(self):
        for digits in range(1, 17):
            nines, one = 10 ** digits - 1, 10 ** (digits - 1)
            room = 16 - digits
            self.check_both_signs(number(nines), -room, number(nines * 10 ** room, -room))
            self.check_both_signs(number(one), -room, number(10 ** 15, -room))
            self.check_both_signs(number(nines), -room - 1, NAN)
            self.check_both_signs(number(one), -room - 1, NAN)

    def test_a_higher_exponent_with_nothing_lost(self):
        self.check_both_signs(number(250, -2), -1, number(25, -1))
        self.check_both_signs(number(10 ** 15), 15, number(1, 15))
        self.check_both_signs(number(10 ** 15, 354), 369, number(1, 369))
        self.check_both_signs(number(9999999999999990, -398), -397, number(999999999999999, -397))

    def test_a_higher_exponent_with_something_lost(self):
        self.check_both_signs(number(124, -2), -1, number(12, -1))
        self.check_both_signs(number(126, -2), -1, number(13, -1))
        self.check_both_signs(number(1249, -3), -1, number(12, -1))
        self.check_both_signs(number(1251, -3), -1, number(13, -1))
        self.check_both_signs(number(1349, -3), -1, number(13, -1))
        self.check_both_signs(number(1234567890123456, -398), -390, number(12345679, -390))
        self.check_both_signs(number(LARGEST, 368), 369, number(10 ** 15, 369))
        self.check_both_signs(number(9994, 0), 1, number(999, 1))

    def test_just_at_the_half(self):
        self.check_both_signs(number(125, -2), -1, number(12, -1))
        self.check_both_signs(number(135, -2), -1, number(14, -1))
        self.check_both_signs(number(1250, -3), -1, number(12, -1))
        self.check_both_signs(number(1350, -3), -1, number(14, -1))
        self.check_both_signs(number(15), 1, number(2, 1))
        self.check_both_signs(number(25), 1, number(2, 1))
        self.check_both_signs(number(9995), 1, number(1000, 1))
        self.check_both_signs(number(2500000000000000), 15, number(2, 15))
        self.check_both_signs(number(3500000000000000), 15, number(4, 15))
        self.check_both_signs(number(2500000000000001), 15, number(3, 15))
        self.check_both_signs(number(3499999999999999), 15, number(3, 15))

    def test_down_to_0(self):
        self.check_both_signs(number(4), 1, zero(1))
        self.check_both_signs(number(5), 1, zero(1))
        self.check_both_signs(number(6), 1, number(1, 1))
        self.check_both_signs(number(5000000000000000), 16, zero(16))
        self.check_both_signs(number(5000000000000001), 16, number(1, 16))
        self.check_both_signs(number(4999999999999999), 16, zero(16))
        self.check_both_signs(number(LARGEST), 16, number(1, 16))
        self.check_both_signs(number(LARGEST), 17, zero(17))
        self.check_both_signs(number(LARGEST, -398), 369, zero(369))
        self.check_both_signs(number(1, -398), 369, zero(369))
        self.check_both_signs(number(1, -398), -397, zero(-397))
        self.check_both_signs(number(1, 368), 369, zero(369))

    def test_the_largest_coefficients(self):
        # Where a digit is lost there is room for one, so that rounding alone never brings more than sixteen.
        self.check_both_signs(number(LARGEST), 0, number(LARGEST))
        self.check_both_signs(number(LARGEST), 1, number(10 ** 15, 1))
        self.check_both_signs(number(9999999999999995), 1, number(10 ** 15, 1))
        self.check_both_signs(number(9999999999999994), 1, number(999999999999999, 1))
        self.check_both_signs(number(LARGEST, 368), 368, number(LARGEST, 368))
        self.check_both_signs(number(LARGEST, -398), -398, number(LARGEST, -398))
        self.check_both_signs(number(LARGEST, -398), -397, number(10 ** 15, -397))
        self.check_both_signs(number(LARGEST, 369), 368, NAN)

    def test_zeros(self):
        for exponent in EXPONENTS_AT_THE_ENDS + (-1, 0, 1):
            for e in range(-398, 370):
                self.check_both_signs(zero(exponent), e, zero(e))

    def test_where_e_is_no_exponent(self):
        for e in NO_EXPONENTS:
            for exponent in EXPONENTS_AT_THE_ENDS + (0,):
                for size in (0, 1, 10, 10 ** 15, LARGEST):
                    self.check_both_signs(number(size, exponent), e, NAN)


class InfinitiesAndNan(PlacedCase):
    def test_they_are_themselves(self):
        for e in NO_EXPONENTS + tuple(range(-398, 370)):
            self.check(INFINITY, e, INFINITY)
            self.check(MINUS_INFINITY, e, MINUS_INFINITY)
            self.check(NAN, e, NAN)


class HandedIn(PlacedCase):
    def test_both_forms_at_their_ends(self):
        for exponent in (-398, -1, 0, 113, 114, 368, 369):
            for coefficient in (0, 1, 10 ** 15, 2 ** 51, 2 ** 52, 2 ** 53 - 1):
                self.check_both_signs(first_form(coefficient, exponent), exponent, number(coefficient, exponent))
            for coefficient in (2 ** 53, 2 ** 53 + 1, LARGEST - 1, LARGEST):
                self.check_both_signs(second_form(coefficient, exponent), exponent, number(coefficient, exponent))

    def test_every_exponent(self):
        for exponent in range(-398, 369):
            self.check_both_signs(first_form(1234, exponent), exponent + 1, number(123, exponent + 1))
            self.check_both_signs(second_form(9234567890123456, exponent), exponent + 1,
                                  number(923456789012346, exponent + 1))
            self.check_both_signs(first_form(1234, exponent + 1), exponent, number(12340, exponent))

    def test_coefficients_above_the_largest_count_as_0(self):
        for coefficient in (10 ** 16, 10 ** 16 + 1, 2 ** 53 + 2 ** 50, 2 ** 53 + 2 ** 51 - 1):
            for exponent in (-398, 0, 369):
                for e in EXPONENTS_AT_THE_ENDS + (-5, 0, 5):
                    self.check_both_signs(second_form(coefficient, exponent), e, zero(e))
                for e in NO_EXPONENTS:
                    self.check_both_signs(second_form(coefficient, exponent), e, NAN)

    def test_infinities_with_other_bits_set(self):
        for other in (1, 2 ** 50, 2 ** 53, 2 ** 57, 2 ** 58 - 1):
            for e in NO_EXPONENTS + EXPONENTS_AT_THE_ENDS + (0,):
                self.check_both_signs(INFINITY + other, e, INFINITY)

    def test_nan_with_other_bits_set(self):
        for other in (0, 1, 2 ** 50, 2 ** 57, 2 ** 58 - 1):
            for e in NO_EXPONENTS + EXPONENTS_AT_THE_ENDS + (0,):
                self.check(NAN + other, e, NAN)
                self.check(NAN + other + MINUS, e, NAN)


class Answered(PlacedCase):
    def test_the_form_that_the_coefficient_asks_for(self):
        self.check(first_form(900719925474099, 1), 0, first_form(9007199254740990, 0))
        self.check(first_form(900719925474100, 1), 0, second_form(9007199254741000, 0))
        self.check(second_form(9007199254740993, 0), 1, first_form(900719925474099, 1))
        self.check(second_form(2 ** 53, 7), 7, second_form(2 ** 53, 7))

    def test_any_bits_handed_in(self):
        source = random.Random(4)
        for turn in range(3000):
            a = source.getrandbits(64)
            e = source.randint(-420, 390) if turn % 2 == 0 else source.randint(-2147483648, 2147483647)
            answer = placed(a, e)[0]
            self.assertTrue(is_allowed(answer), (hex(a), e, hex(answer)))


class SecondOpinion(PlacedCase):
    def test_numbers_at_the_edges(self):
        sizes = (0, 1, 4, 5, 6, 15, 25, 10 ** 15, 2 ** 53 - 1, 2 ** 53, 9999999999999995, LARGEST)
        for size in sizes:
            for exponent in EXPONENTS_AT_THE_ENDS + (0,):
                for minus in SIGNS:
                    a = number(size, exponent, minus)
                    for e in range(max(-398, exponent - 20), min(369, exponent + 20) + 1):
                        self.check(a, e, second_opinion_on_placed(a, e))

    def test_drawn_numbers(self):
        source = random.Random(44)
        for turn in range(3000):
            a = drawn(source, turn % 2 == 0)
            e = source.randint(-30, 30) if turn % 2 == 0 else source.randint(-398, 369)
            self.check(a, e, second_opinion_on_placed(a, e))


class GivenBack(unittest.TestCase):
    CALLS = [(a, e) for a in (0, 1, 2 ** 64 - 1, zero(), zero(3, True), number(5), number(-25, -1),
                              number(LARGEST, 369), INFINITY, MINUS_INFINITY, NAN)
             for e in (-2147483648, -398, -1, 0, 1, 369, 2147483647)]

    def test_a_list_of_one_int(self):
        for a, e in self.CALLS:
            self.assertTrue(is_list_of_one_int(placed(a, e)), (shown(a), e))

    def test_bits_0_and_1_are_answered_as_ints(self):
        self.assertEqual(placed(0, -398), [0])
        self.assertEqual(placed(1, -398), [1])
        self.assertTrue(is_list_of_one_int(placed(0, -398)))
        self.assertTrue(is_list_of_one_int(placed(1, -398)))

    def test_the_same_again(self):
        first = [placed(a, e) for a, e in self.CALLS]
        for answer in [placed(a, e) for a, e in self.CALLS]:
            answer.append("changed by the caller")
        self.assertEqual([placed(a, e) for a, e in reversed(self.CALLS)], first[::-1])


if __name__ == "__main__":
    unittest.main()
