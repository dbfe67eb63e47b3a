"""Promise 6, from_whole (the document's from)."""

import random
import unittest

from sixteendigits.decimals import from_whole, whole
from tests.helper import (LARGEST, first_form, is_allowed, is_list_of_one_int, number, second_form,
                          second_opinion_on_from_whole, shown, turned, zero)

LEAST, GREATEST = -9223372036854775808, 9223372036854775807


class FromWholeCase(unittest.TestCase):
    def check(self, n, wanted):
        answer = from_whole(n)
        if answer != [wanted]:
            self.fail(f"{n} as a number: {answer} where {shown(wanted)} is asked")

    def check_both_signs(self, n, wanted):
        self.check(n, wanted)
        self.check(-n, turned(wanted))


class Exact(FromWholeCase):
    def test_0_is_not_minus(self):
        self.check(0, zero(0))

    def test_1_and_minus_1(self):
        self.check(1, number(1))
        self.check(-1, number(-1))

    def test_up_to_sixteen_digits_with_exponent_0(self):
        for digits in range(1, 17):
            for n in (10 ** (digits - 1), 10 ** digits - 1, 1234567890123456 // 10 ** (16 - digits)):
                self.check_both_signs(n, number(n))
        for n in (10, 100, 120, 1000000, 9999999999999990, LARGEST - 1, LARGEST, 2 ** 53 - 1, 2 ** 53, 2 ** 53 + 1):
            self.check_both_signs(n, number(n))

    def test_longer_ones_with_the_exponent_nearest_to_0(self):
        self.check_both_signs(10 ** 16, number(10 ** 15, 1))
        self.check_both_signs(10 ** 17, number(10 ** 15, 2))
        self.check_both_signs(10 ** 18, number(10 ** 15, 3))
        self.check_both_signs(9 * 10 ** 18, number(9 * 10 ** 15, 3))
        self.check_both_signs(12345678901234560, number(1234567890123456, 1))
        self.check_both_signs(12345678901234500, number(1234567890123450, 1))
        self.check_both_signs(123456789012345600, number(1234567890123456, 2))
        self.check_both_signs(1234567890123456000, number(1234567890123456, 3))
        self.check_both_signs(99999999999999990, number(LARGEST, 1))
        self.check_both_signs(9223372036854775000, number(9223372036854775, 3))


class Rounded(FromWholeCase):
    def test_seventeen_digits(self):
        self.check_both_signs(10000000000000001, number(1000000000000000, 1))
        self.check_both_signs(12345678901234564, number(1234567890123456, 1))
        self.check_both_signs(12345678901234565, number(1234567890123456, 1))
        self.check_both_signs(12345678901234566, number(1234567890123457, 1))
        self.check_both_signs(12345678901234574, number(1234567890123457, 1))
        self.check_both_signs(12345678901234575, number(1234567890123458, 1))
        self.check_both_signs(12345678901234576, number(1234567890123458, 1))

    def test_eighteen_digits(self):
        self.check_both_signs(123456789012345649, number(1234567890123456, 2))
        self.check_both_signs(123456789012345650, number(1234567890123456, 2))
        self.check_both_signs(123456789012345651, number(1234567890123457, 2))
        self.check_both_signs(123456789012345749, number(1234567890123457, 2))
        self.check_both_signs(123456789012345750, number(1234567890123458, 2))
        self.check_both_signs(123456789012345751, number(1234567890123458, 2))

    def test_nineteen_digits(self):
        self.check_both_signs(1234567890123456499, number(1234567890123456, 3))
        self.check_both_signs(1234567890123456500, number(1234567890123456, 3))
        self.check_both_signs(1234567890123456501, number(1234567890123457, 3))
        self.check_both_signs(1234567890123457499, number(1234567890123457, 3))
        self.check_both_signs(1234567890123457500, number(1234567890123458, 3))
        self.check_both_signs(1234567890123457501, number(1234567890123458, 3))

    def test_rounding_brings_a_digit_more(self):
        self.check_both_signs(99999999999999994, number(LARGEST, 1))
        self.check_both_signs(99999999999999995, number(10 ** 15, 2))
        self.check_both_signs(99999999999999999, number(10 ** 15, 2))
        self.check_both_signs(999999999999999949, number(LARGEST, 2))
        self.check_both_signs(999999999999999950, number(10 ** 15, 3))
        self.check_both_signs(999999999999999999, number(10 ** 15, 3))

    def test_the_least_and_the_greatest(self):
        self.check(LEAST, number(-9223372036854776, 3))
        self.check(LEAST + 1, number(-9223372036854776, 3))
        self.check(GREATEST, number(9223372036854776, 3))
        self.check(GREATEST - 1, number(9223372036854776, 3))
        self.check_both_signs(9223372036854775500, number(9223372036854776, 3))
        self.check_both_signs(9223372036854775499, number(9223372036854775, 3))


class Answered(FromWholeCase):
    def test_the_form_that_the_coefficient_asks_for(self):
        self.check_both_signs(2 ** 53 - 1, first_form(2 ** 53 - 1, 0))
        self.check_both_signs(2 ** 53, second_form(2 ** 53, 0))
        self.check_both_signs(LARGEST, second_form(LARGEST, 0))
        self.check_both_signs(90071992547409914, first_form(2 ** 53 - 1, 1))
        self.check_both_signs(90071992547409915, second_form(2 ** 53, 1))

    def test_written_out(self):
        self.check(0, 0x31C0000000000000)
        self.check(1, 0x31C0000000000001)
        self.check(-1, 0xB1C0000000000001)

    def test_only_allowed_bits(self):
        source = random.Random(6)
        for turn in range(2000):
            answer = from_whole(source.randint(LEAST, GREATEST))[0]
            self.assertTrue(is_allowed(answer), hex(answer))


class SecondOpinion(FromWholeCase):
    def test_around_powers(self):
        for base in [10 ** power for power in range(19)] + [2 ** power for power in range(63)] + [5 * 10 ** 17]:
            for n in range(base - 60, base + 61):
                self.check(n, second_opinion_on_from_whole(n))
                if n != 0:
                    self.check(-n, second_opinion_on_from_whole(-n))

    def test_drawn_whole_numbers(self):
        source = random.Random(66)
        for turn in range(3000):
            size = source.randrange(10 ** source.randint(1, 18)) if turn % 2 == 0 else source.randint(0, GREATEST)
            places = 10 ** source.randint(0, 5)
            n = size // places * places * source.choice((1, -1))
            self.check(n, second_opinion_on_from_whole(n))

    def test_back_again(self):
        for n in (0, 1, -1, 10 ** 16, -10 ** 18, LARGEST, -LARGEST, 9223372036854775000, -9223372036854775000):
            self.assertEqual(whole(from_whole(n)[0]), [n])


class GivenBack(unittest.TestCase):
    HANDED_IN = (0, 1, -1, 10, LARGEST, -LARGEST, 10 ** 16, 12345678901234565, LEAST, GREATEST)

    def test_a_list_of_one_int(self):
        for n in self.HANDED_IN:
            self.assertTrue(is_list_of_one_int(from_whole(n)), n)

    def test_the_same_again(self):
        first = [from_whole(n) for n in self.HANDED_IN]
        for answer in [from_whole(n) for n in self.HANDED_IN]:
            answer.append("changed by the caller")
        self.assertEqual([from_whole(n) for n in reversed(self.HANDED_IN)], first[::-1])


if __name__ == "__main__":
    unittest.main()
