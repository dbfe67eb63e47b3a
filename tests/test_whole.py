"""Promise 5, whole."""

import random
import unittest

from sixteendigits.decimals import from_whole, whole
from tests.helper import (INFINITY, LARGEST, MINUS, MINUS_INFINITY, NAN, drawn, first_form, is_list_of_one_int, number,
                          second_form, second_opinion_on_whole, shown, turned, zero)

LEAST = -9223372036854775808


class WholeCase(unittest.TestCase):
    def check(self, a, wanted):
        answer = whole(a)
        if answer != [wanted]:
            self.fail(f"whole of {shown(a)}: {answer} where {wanted} is asked")

    def check_both_signs(self, a, wanted):
        self.check(a, wanted)
        self.check(turned(a), wanted if wanted == LEAST else -wanted)


class Numbers(WholeCase):
    def test_whole_ones(self):
        self.check_both_signs(number(1), 1)
        self.check_both_signs(number(1234567890123456), 1234567890123456)
        self.check_both_signs(number(LARGEST), 9999999999999999)
        self.check_both_signs(number(250, -1), 25)
        self.check_both_signs(number(10 ** 15, -15), 1)
        self.check_both_signs(number(9999999999999000, -3), 9999999999999)
        self.check_both_signs(number(25, 1), 250)
        self.check_both_signs(number(1, 18), 1000000000000000000)
        self.check_both_signs(number(9, 18), 9000000000000000000)
        self.check_both_signs(number(LARGEST, 2), 999999999999999900)

    def test_others_go_toward_0(self):
        self.check_both_signs(number(15, -1), 1)
        self.check_both_signs(number(25, -1), 2)
        self.check_both_signs(number(19, -1), 1)
        self.check_both_signs(number(11, -1), 1)
        self.check_both_signs(number(29999, -4), 2)
        self.check_both_signs(number(LARGEST, -1), 999999999999999)
        self.check_both_signs(number(LARGEST, -15), 9)
        self.check_both_signs(number(1000000000000001, -15), 1)

    def test_between_minus_1_and_1(self):
        for exponent in (-16, -17, -100, -397, -398):
            for size in (1, 5 * 10 ** 15, LARGEST):
                self.check_both_signs(number(size, exponent), 0)
        for size in (1, 4, 5, 6, 9):
            self.check_both_signs(number(size, -1), 0)
        self.check_both_signs(number(999999999999999, -15), 0)
        self.check_both_signs(number(1, -398), 0)

    def test_zeros(self):
        for exponent in (-398, -397, -16, -1, 0, 1, 18, 19, 368, 369):
            self.check(zero(exponent), 0)
            self.check(zero(exponent, True), 0)


class SixtyFourBits(WholeCase):
    def test_just_within(self):
        self.check_both_signs(number(9223372036854775, 3), 9223372036854775000)
        self.check_both_signs(number(9223372036854770, 3), 9223372036854770000)
        self.check_both_signs(number(922337203685477, 4), 9223372036854770000)
        self.check_both_signs(number(9223372036854700, 3), 9223372036854700000)
        self.check_both_signs(number(92233720368547, 5), 9223372036854700000)
        self.check_both_signs(number(92, 17), 9200000000000000000)
        self.check_both_signs(number(9, 18), 9000000000000000000)

    def test_just_outside(self):
        self.check_both_signs(number(9223372036854776, 3), LEAST)
        self.check_both_signs(number(9223372036854780, 3), LEAST)
        self.check_both_signs(number(922337203685478, 4), LEAST)
        self.check_both_signs(number(9223372036854800, 3), LEAST)
        self.check_both_signs(number(92233720368548, 5), LEAST)
        self.check_both_signs(number(93, 17), LEAST)
        self.check_both_signs(number(1, 19), LEAST)
        self.check_both_signs(number(10, 18), LEAST)
        self.check_both_signs(number(10 ** 15, 4), LEAST)

    def test_the_least_itself(self):
        # It has nineteen digits and so is no number: what is nearest to it is outside already.
        nearest = from_whole(LEAST)[0]
        self.assertEqual(nearest, number(-9223372036854776, 3))
        self.check(nearest, LEAST)
        self.check(number(-9223372036854775, 3), LEAST + 808)

    def test_no_wrapping_around(self):
        # Just beside 2^64, and a multiple of it: their lowest 64 bits alone would look small.
        self.check_both_signs(number(1844674407370955, 4), LEAST)
        self.check_both_signs(number(1844674407370956, 4), LEAST)
        self.check_both_signs(number(1, 64), LEAST)

    def test_far_too_large(self):
        for exponent in range(19, 370):
            self.check_both_signs(number(1, exponent), LEAST)
            self.check_both_signs(number(LARGEST, exponent), LEAST)

    def test_infinities_and_nan(self):
        self.check(INFINITY, LEAST)
        self.check(MINUS_INFINITY, LEAST)
        self.check(NAN, LEAST)


class HandedIn(WholeCase):
    def test_both_forms_at_their_ends(self):
        for coefficient in (0, 1, 10 ** 15, 2 ** 51, 2 ** 52, 2 ** 53 - 1):
            self.check_both_signs(first_form(coefficient, 0), coefficient)
            self.check_both_signs(first_form(coefficient, 2), coefficient * 100)
            self.check_both_signs(first_form(coefficient, -3), coefficient // 1000)
        for coefficient in (2 ** 53, 2 ** 53 + 1, LARGEST - 1, LARGEST):
            self.check_both_signs(second_form(coefficient, 0), coefficient)
            self.check_both_signs(second_form(coefficient, 2), coefficient * 100)
            self.check_both_signs(second_form(coefficient, -3), coefficient // 1000)

    def test_coefficients_above_the_largest_count_as_0(self):
        for coefficient in (10 ** 16, 10 ** 16 + 1, 2 ** 53 + 2 ** 50, 2 ** 53 + 2 ** 51 - 1):
            for exponent in (-398, -1, 0, 1, 3, 369):
                self.check_both_signs(second_form(coefficient, exponent), 0)

    def test_infinities_and_nan_with_other_bits_set(self):
        for other in (0, 1, 2 ** 50, 2 ** 53, 2 ** 57, 2 ** 58 - 1):
            for bits in (INFINITY + other, MINUS_INFINITY + other, NAN + other, NAN + other + MINUS):
                self.check(bits, LEAST)


class SecondOpinion(WholeCase):
    def test_numbers_at_the_edges(self):
        sizes = (0, 1, 5, 9, 10, 92, 93, 922337203685477, 922337203685478, 10 ** 15, 2 ** 53 - 1, 2 ** 53,
                 9223372036854775, 9223372036854776, LARGEST)
        for size in sizes:
            for exponent in tuple(range(-20, 21)) + (-398, -397, 368, 369):
                for a in (number(size, exponent), number(size, exponent, True)):
                    self.check(a, second_opinion_on_whole(a))

    def test_drawn_numbers(self):
        source = random.Random(5)
        for turn in range(3000):
            a = drawn(source, turn % 4 > 0)
            self.check(a, second_opinion_on_whole(a))

    def test_any_bits(self):
        source = random.Random(55)
        for turn in range(2000):
            a = source.getrandbits(64)
            self.check(a, second_opinion_on_whole(a))


class GivenBack(unittest.TestCase):
    HANDED_IN = (0, 1, 2 ** 64 - 1, zero(), zero(5, True), number(1), number(-1), number(25, -1), number(1, 19),
                 INFINITY, MINUS_INFINITY, NAN)

    def test_a_list_of_one_int(self):
        for a in self.HANDED_IN:
            self.assertTrue(is_list_of_one_int(whole(a)), shown(a))

    def test_the_same_again(self):
        first = [whole(a) for a in self.HANDED_IN]
        for answer in [whole(a) for a in self.HANDED_IN]:
            answer.append("changed by the caller")
        self.assertEqual([whole(a) for a in reversed(self.HANDED_IN)], first[::-1])


if __name__ == "__main__":
    unittest.main()
