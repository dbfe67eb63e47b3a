"""Promise 8, total."""

import random
import unittest

from sixteendigits.decimals import op, total
from tests.helper import (INFINITY, LARGEST, MINUS, MINUS_INFINITY, NAN, OnlyRead, drawn, first_form, is_allowed,
                          is_list_of_one_int, number, second_form, second_opinion_on_total, shown, turned, zero)


class TotalCase(unittest.TestCase):
    def check(self, numbers, wanted):
        answer = total(numbers)
        if answer != [wanted]:
            first = ", ".join(shown(bits) for bits in numbers[:5])
            self.fail(f"total of {len(numbers)} numbers ({first}, ..): {answer} where {shown(wanted)} is asked")

    def check_both_signs(self, numbers, wanted):
        self.check(numbers, wanted)
        self.check([turned(bits) for bits in numbers], turned(wanted))


class NoneAtAll(TotalCase):
    def test_0_with_exponent_0(self):
        self.check([], zero(0))
        self.check([], 0x31C0000000000000)


class One(TotalCase):
    def test_itself(self):
        for bits in (number(1), number(-1), number(100, -2), number(1, 369), number(1, -398), number(LARGEST, 369),
                     number(10 ** 15, -398), number(2 ** 53 - 1, 7), number(2 ** 53, 7), INFINITY, MINUS_INFINITY, NAN):
            self.check([bits], bits)

    def test_zeros_keep_sign_and_exponent(self):
        for exponent in (-398, -1, 0, 1, 369):
            self.check([zero(exponent)], zero(exponent))
            self.check([zero(exponent, True)], zero(exponent, True))

    def test_both_forms_at_their_ends(self):
        for exponent in (-398, -1, 0, 369):
            for coefficient in (0, 1, 2 ** 51, 2 ** 53 - 1):
                self.check_both_signs([first_form(coefficient, exponent)], first_form(coefficient, exponent))
            for coefficient in (2 ** 53, 2 ** 53 + 1, LARGEST):
                self.check_both_signs([second_form(coefficient, exponent)], second_form(coefficient, exponent))

    def test_coefficients_above_the_largest_are_answered_as_0(self):
        for coefficient in (10 ** 16, 10 ** 16 + 1, 2 ** 53 + 2 ** 51 - 1):
            for exponent in (-398, -1, 0, 1, 369):
                self.check_both_signs([second_form(coefficient, exponent)], zero(exponent))

    def test_infinities_and_nan_lose_other_bits(self):
        for other in (0, 1, 2 ** 50, 2 ** 53, 2 ** 57, 2 ** 58 - 1):
            self.check([INFINITY + other], INFINITY)
            self.check([MINUS_INFINITY + other], MINUS_INFINITY)
            self.check([NAN + other], NAN)
            self.check([NAN + other + MINUS], NAN)


class Sums(TotalCase):
    def test_two(self):
        self.check_both_signs([number(1), number(2)], number(3))
        self.check_both_signs([number(1), number(-3)], number(-2))
        self.check_both_signs([number(15, -1), number(250, -2)], number(400, -2))
        self.check_both_signs([number(LARGEST), number(1)], number(10 ** 15, 1))
        self.check_both_signs([number(LARGEST, 369), number(LARGEST, 369)], INFINITY)

    def test_many(self):
        self.check_both_signs([number(n) for n in range(1, 101)], number(5050))
        self.check_both_signs([number(1, -1)] * 10, number(10, -1))
        self.check_both_signs([number(1, exponent) for exponent in range(16)], number(1111111111111111))
        self.check_both_signs([number(1, exponent) for exponent in range(15, -1, -1)], number(1111111111111111))

    def test_the_lowest_exponent_so_far(self):
        self.check_both_signs([number(1), number(10, -1), number(1)], number(30, -1))
        self.check_both_signs([zero(-5), number(1), number(1)], number(200000, -5))
        self.check_both_signs([number(1, 5), number(1, 3), number(1, 4)], number(111, 3))

    def test_rounded_each_time(self):
        large, half = number(10 ** 15, 1), number(5)
        # A 5 at a time is at the half and lost each time; two of them together are not.
        self.check_both_signs([large, half, half], large)
        self.check_both_signs([half, half, large], number(1000000000000001, 1))
        self.check_both_signs([large] + [half] * 100, large)
        self.check_both_signs([half] * 100 + [large], number(1000000000000050, 1))
        # Each of these goes up to the even coefficient at first, and then no further.
        self.check_both_signs([number(1000000000000001, 1), half, half], number(1000000000000002, 1))

    def test_from_the_first_to_the_last(self):
        one, large = number(1), number(1, 20)
        self.check([one, large, turned(large)], zero(5))
        self.check([large, one, turned(large)], zero(5))
        self.check([turned(large), turned(one), large], zero(5))
        self.check_both_signs([large, turned(large), one], number(1))
        self.check([number(LARGEST, 369), number(LARGEST, 369), number(-LARGEST, 369)], INFINITY)
        self.check([number(LARGEST, 369), number(-LARGEST, 369), number(LARGEST, 369)], number(LARGEST, 369))

    def test_a_first_one_counts_by_its_value(self):
        above = second_form(10 ** 16, -2)
        self.check([above, number(1)], number(100, -2))
        self.check([number(1), above], number(100, -2))
        self.check([second_form(2 ** 53, 0), first_form(1, 0)], number(2 ** 53 + 1))


class Zeros(TotalCase):
    def test_sums_of_zeros(self):
        self.check([zero(3), zero(5)], zero(3))
        self.check([zero(3, True), zero(5, True)], zero(3, True))
        self.check([zero(3, True), zero(5)], zero(3))
        self.check([zero(3), zero(5, True)], zero(3))
        self.check([zero(0, True)] * 3, zero(0, True))
        self.check([zero(0, True), zero(0, True), zero(0), zero(0, True)], zero(0))
        self.check([zero(0, True)] * 1000, zero(0, True))
        self.check([zero(-7, True)] * 999 + [zero(369)], zero(-7))

    def test_sums_that_are_0(self):
        self.check([number(1), number(-1)], zero(0))
        self.check([number(-1), number(1)], zero(0))
        self.check([number(-1), number(1), zero(0, True)], zero(0))
        self.check([number(1, 5), number(1, -2), number(-1, 5), number(-1, -2)], zero(-2))
        self.check([number(n) for n in range(-50, 51)], zero(0))


class InfinitiesAndNan(TotalCase):
    def with_one_in(self, bits):
        """The number 1 many times, and the bits at the first, a middle and the last place."""
        return [[bits] + [number(1)] * 8, [number(1)] * 4 + [bits] + [number(1)] * 4, [number(1)] * 8 + [bits]]

    def test_one_infinity(self):
        for numbers in self.with_one_in(INFINITY):
            self.check(numbers, INFINITY)
        for numbers in self.with_one_in(MINUS_INFINITY):
            self.check(numbers, MINUS_INFINITY)

    def test_infinities_of_one_sign(self):
        self.check_both_signs([INFINITY, INFINITY], INFINITY)
        self.check_both_signs([INFINITY, number(-1), INFINITY, zero(0, True), INFINITY], INFINITY)
        self.check_both_signs([INFINITY] * 1000, INFINITY)

    def test_infinities_of_both_signs(self):
        self.check([INFINITY, MINUS_INFINITY], NAN)
        self.check([MINUS_INFINITY, INFINITY], NAN)
        for numbers in self.with_one_in(INFINITY):
            self.check(numbers + [MINUS_INFINITY], NAN)
            self.check([MINUS_INFINITY] + numbers, NAN)
            self.check([MINUS_INFINITY] + numbers + [INFINITY], NAN)

    def test_nan_at_each_place(self):
        for bits in (NAN, NAN + 1, NAN + MINUS, NAN + MINUS + 2 ** 58 - 1):
            for numbers in self.with_one_in(bits):
                self.check(numbers, NAN)
                self.check(numbers + [INFINITY], NAN)
                self.check([INFINITY] + numbers, NAN)

    def test_with_other_bits_set(self):
        for other in (1, 2 ** 50, 2 ** 57, 2 ** 58 - 1):
            for numbers in self.with_one_in(INFINITY + other):
                self.check(numbers, INFINITY)
            for numbers in self.with_one_in(MINUS_INFINITY + other):
                self.check(numbers, MINUS_INFINITY)


class HowMany(TotalCase):
    def test_1000(self):
        self.check_both_signs([number(1)] * 999, number(999))
        self.check_both_signs([number(1)] * 1000, number(1000))
        self.check_both_signs([number(LARGEST, 369)] + [zero(0)] * 999, number(LARGEST, 369))

    def test_more_are_nan(self):
        for many in (1001, 1002, 1050, 1099, 1100):
            for bits in (number(1), number(-1), zero(0), zero(0, True), INFINITY, MINUS_INFINITY, NAN):
                self.check([bits] * many, NAN)

    def test_infinities_and_nan_among_them(self):
        for many, wanted in ((1000, INFINITY), (1001, NAN), (1100, NAN)):
            for place in (0, many // 2, many - 1):
                numbers = [number(1)] * many
                numbers[place] = INFINITY
                self.check(numbers, wanted)
                numbers[place] = NAN
                self.check(numbers, NAN)

    def test_1000_that_lie_far_apart(self):
        numbers = [number(1, 369 if place % 2 else -398, place % 4 > 1) for place in range(1000)]
        self.check(numbers, second_opinion_on_total(numbers))


class Answered(TotalCase):
    def test_only_allowed_bits(self):
        source = random.Random(8)
        for turn in range(500):
            numbers = [source.getrandbits(64) for place in range(source.randint(0, 4))]
            answer = total(numbers)[0]
            self.assertTrue(is_allowed(answer), hex(answer))


class SecondOpinion(TotalCase):
    def test_drawn_numbers(self):
        source = random.Random(88)
        for turn in range(600):
            numbers = [drawn(source, turn % 4 > 0) for place in range(source.randint(0, 12))]
            self.check(numbers, second_opinion_on_total(numbers))

    def test_many_drawn_numbers(self):
        source = random.Random(888)
        for many in (100, 999, 1000, 1001, 1100):
            numbers = [drawn(source, True) for place in range(many)]
            self.check(numbers, second_opinion_on_total(numbers))

    def test_any_bits(self):
        source = random.Random(8888)
        for turn in range(1000):
            numbers = [source.getrandbits(64) for place in range(source.randint(0, 4))]
            self.check(numbers, second_opinion_on_total(numbers))

    def test_two_are_the_sum_by_op(self):
        source = random.Random(18)
        for turn in range(500):
            a, b = source.getrandbits(64), source.getrandbits(64)
            self.assertEqual(total([a, b]), op(0, a, b))


class GivenBack(unittest.TestCase):
    HANDED_IN = ([], [0], [1, 2 ** 64 - 1], [number(1), number(2)], [number(1)] * 1000, [number(1)] * 1001,
                 [zero(5, True)], [INFINITY, MINUS_INFINITY], [second_form(10 ** 16, 0), number(-1)], [NAN + 1])

    def test_a_list_of_one_int(self):
        for numbers in self.HANDED_IN:
            self.assertTrue(is_list_of_one_int(total(list(numbers))), numbers[:3])

    def test_the_same_again(self):
        first = [total(list(numbers)) for numbers in self.HANDED_IN]
        for answer in [total(list(numbers)) for numbers in self.HANDED_IN]:
            answer.append("changed by the caller")
        self.assertEqual([total(list(numbers)) for numbers in reversed(self.HANDED_IN)], first[::-1])

    def test_what_is_handed_in_stays(self):
        for numbers in self.HANDED_IN:
            handed_in = list(numbers)
            answer = total(handed_in)
            self.assertEqual(handed_in, numbers)
            self.assertIsNot(answer, handed_in)
            answer.append(0)
            self.assertEqual(handed_in, numbers)

    def test_not_changed_for_a_while_either(self):
        for numbers in self.HANDED_IN:
            self.assertEqual(total(OnlyRead(numbers)), total(list(numbers)))


if __name__ == "__main__":
    unittest.main()
