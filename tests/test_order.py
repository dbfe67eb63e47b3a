"""Promise 3, order."""

import random
import unittest

from sixteendigits.decimals import order
from tests.helper import (INFINITY, LARGEST, MINUS, MINUS_INFINITY, NAN, drawn, first_form, is_list_of_one_int, number,
                          second_form, second_opinion_on_order, shown, turned, zero)

LESS, SAME, GREATER, NO_ORDER = -1, 0, 1, 2
SIGNS = (False, True)


class OrderCase(unittest.TestCase):
    def check(self, a, b, wanted):
        answer = order(a, b)
        if answer != [wanted]:
            self.fail(f"order of {shown(a)} and {shown(b)}: {answer} where {wanted} is asked")

    def check_less(self, a, b):
        """From either side, and with both signs turned, which turns the order too."""
        self.check(a, b, LESS)
        self.check(b, a, GREATER)
        self.check(turned(a), turned(b), GREATER)
        self.check(turned(b), turned(a), LESS)

    def check_same(self, a, b):
        self.check(a, b, SAME)
        self.check(b, a, SAME)
        self.check(turned(a), turned(b), SAME)
        self.check(turned(b), turned(a), SAME)


class Values(OrderCase):
    def test_of_the_same_exponent(self):
        for exponent in (-398, -397, -1, 0, 1, 368, 369):
            self.check_less(number(2, exponent), number(3, exponent))
            self.check_less(number(LARGEST - 1, exponent), number(LARGEST, exponent))
            self.check_less(number(2 ** 53 - 1, exponent), number(2 ** 53, exponent))
            for size in (1, 7, 10 ** 15, 2 ** 53, LARGEST):
                self.check_same(number(size, exponent), number(size, exponent))

    def test_of_different_exponents(self):
        self.check_less(number(2, 1), number(21))
        self.check_less(number(19), number(2, 1))
        self.check_less(number(5, -1), number(1))
        self.check_less(number(9), number(1, 1))
        self.check_less(number(LARGEST, -1), number(10 ** 15))
        self.check_less(number(10 ** 15), number(1000000000000001))
        self.check_less(number(LARGEST), number(1, 16))
        self.check_less(number(LARGEST, -398), number(1, -382))
        self.check_less(number(1, 369), number(1000000000000001, 354))

    def test_of_different_signs(self):
        for small, large in ((1, 1), (1, LARGEST), (LARGEST, 1), (5, 5)):
            for first, second in ((0, 0), (-398, 369), (369, -398), (3, -2)):
                self.check(number(-small, first), number(large, second), LESS)
                self.check(number(large, second), number(-small, first), GREATER)

    def test_the_same_value_written_otherwise(self):
        self.check_same(number(250, -2), number(25, -1))
        self.check_same(number(1), number(10 ** 15, -15))
        self.check_same(number(1, 15), number(10 ** 15))
        self.check_same(number(9999999999999990, -398), number(999999999999999, -397))
        self.check_same(number(10, 368), number(1, 369))
        self.check_same(number(10 ** 15, 354), number(1, 369))
        self.check_same(number(9200000000000000, 5), number(92, 19))

    def test_the_same_size_with_the_other_sign(self):
        self.check(number(250, -2), number(-25, -1), GREATER)
        self.check(number(-25, -1), number(250, -2), LESS)
        self.check(number(7), number(-7), GREATER)
        self.check(number(-7), number(7), LESS)

    def test_zeros_are_the_same(self):
        exponents = (-398, -1, 0, 1, 369)
        for first in exponents:
            for second in exponents:
                for minus in SIGNS:
                    self.check_same(zero(first), zero(second, minus))

    def test_zeros_beside_other_numbers(self):
        for minus in SIGNS:
            for exponent in (-398, 0, 369):
                for other in (number(1, -398), number(1), number(LARGEST, 369)):
                    self.check_less(zero(exponent, minus), other)

    def test_too_far_apart_for_sixteen_digits(self):
        self.check_less(number(LARGEST, -398), number(1, 369))
        self.check_less(number(1, -398), number(LARGEST, 369))
        self.check_less(number(LARGEST, -17), number(1))
        self.check_less(number(LARGEST), number(2, 16))
        self.check_less(number(LARGEST, 100), number(1, 130))
        self.check_less(number(-1, 369), number(LARGEST, -398))
        self.check_less(number(-LARGEST, 369), number(-1, -398))
        self.check_less(number(-1, 369), number(-LARGEST, -398))


class InfinitiesAndNan(OrderCase):
    def test_infinities_beside_each_other(self):
        self.check(INFINITY, INFINITY, SAME)
        self.check(MINUS_INFINITY, MINUS_INFINITY, SAME)
        self.check(INFINITY, MINUS_INFINITY, GREATER)
        self.check(MINUS_INFINITY, INFINITY, LESS)

    def test_infinities_beside_numbers(self):
        for size in (0, 1, 2 ** 53, LARGEST):
            for exponent in (-398, 0, 369):
                for minus in SIGNS:
                    self.check_less(number(size, exponent, minus), INFINITY)
                    self.check_less(MINUS_INFINITY, number(size, exponent, minus))

    def test_nan_on_either_side(self):
        self.check(NAN, NAN, NO_ORDER)
        for other in (zero(), zero(5, True), number(1), number(-LARGEST, 369), INFINITY, MINUS_INFINITY):
            self.check(NAN, other, NO_ORDER)
            self.check(other, NAN, NO_ORDER)


class HandedIn(OrderCase):
    def test_both_forms(self):
        for exponent in (-398, -1, 0, 113, 114, 369):
            for sign in (0, MINUS):
                below, above = (LESS, GREATER) if sign == 0 else (GREATER, LESS)
                last, first = first_form(2 ** 53 - 1, exponent) + sign, second_form(2 ** 53, exponent) + sign
                self.check(last, first, below)
                self.check(first, last, above)
                self.check(first, first, SAME)
                self.check(last, last, SAME)

    def test_every_exponent(self):
        for exponent in range(-398, 369):
            self.check_less(first_form(3, exponent), first_form(3, exponent + 1))
            self.check_less(second_form(LARGEST, exponent), second_form(2 ** 53, exponent + 1))
            self.check_same(first_form(30, exponent), first_form(3, exponent + 1))
            self.check_same(second_form(9300000000000000, exponent), first_form(930000000000000, exponent + 1))

    def test_coefficients_above_the_largest_count_as_0(self):
        for coefficient in (10 ** 16, 10 ** 16 + 1, 2 ** 53 + 2 ** 50, 2 ** 53 + 2 ** 51 - 1):
            for exponent in (-398, 0, 369):
                for sign in (0, MINUS):
                    nought = second_form(coefficient, exponent) + sign
                    self.check_same(nought, zero(5))
                    self.check_same(nought, turned(nought))
                    self.check_less(nought, number(1, -398))
                    self.check_less(number(-1, -398), nought)
                    self.check_less(nought, INFINITY)
                    self.check(nought, NAN, NO_ORDER)

    def test_infinities_with_other_bits_set(self):
        for other in (1, 2 ** 50, 2 ** 53, 2 ** 57, 2 ** 58 - 1):
            self.check_same(INFINITY + other, INFINITY)
            self.check_less(MINUS_INFINITY, INFINITY + other)
            self.check_less(MINUS_INFINITY + other, INFINITY + other)
            self.check_less(number(LARGEST, 369), INFINITY + other)

    def test_nan_with_other_bits_set(self):
        for other in (0, 1, 2 ** 50, 2 ** 57, 2 ** 58 - 1):
            for nan in (NAN + other, NAN + other + MINUS):
                self.check(nan, nan, NO_ORDER)
                self.check(nan, NAN, NO_ORDER)
                for beside in (zero(), number(-1), INFINITY, MINUS_INFINITY):
                    self.check(nan, beside, NO_ORDER)
                    self.check(beside, nan, NO_ORDER)


class SecondOpinion(OrderCase):
    def test_numbers_at_the_edges(self):
        sizes = (0, 1, 9, 10, 10 ** 15, 2 ** 53 - 1, 2 ** 53, 9999999999999990, LARGEST)
        numbers = [number(size, exponent, minus) for size in sizes for exponent in (-398, -397, -16, 0, 15, 368, 369)
                   for minus in SIGNS] + [INFINITY, MINUS_INFINITY, NAN]
        for a in numbers:
            for b in numbers:
                self.check(a, b, second_opinion_on_order(a, b))

    def test_drawn_numbers(self):
        source = random.Random(3)
        for turn in range(3000):
            near = turn % 2 == 0
            a, b = drawn(source, near), drawn(source, near)
            self.check(a, b, second_opinion_on_order(a, b))

    def test_any_bits(self):
        source = random.Random(33)
        for turn in range(3000):
            a, b = source.getrandbits(64), source.getrandbits(64)
            self.check(a, b, second_opinion_on_order(a, b))


class GivenBack(unittest.TestCase):
    NUMBERS = (0, 1, 2 ** 64 - 1, zero(), zero(3, True), number(5), number(50, -1), number(-5), INFINITY,
               MINUS_INFINITY, NAN)

    def test_a_list_of_one_int(self):
        for a in self.NUMBERS:
            for b in self.NUMBERS:
                self.assertTrue(is_list_of_one_int(order(a, b)), (shown(a), shown(b)))

    def test_the_same_again(self):
        calls = [(a, b) for a in self.NUMBERS for b in self.NUMBERS]
        first = [order(a, b) for a, b in calls]
        for answer in [order(a, b) for a, b in calls]:
            answer.append("changed by the caller")
        self.assertEqual([order(a, b) for a, b in reversed(calls)], first[::-1])


if __name__ == "__main__":
    unittest.main()
