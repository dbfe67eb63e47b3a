"""Promise 1, op: ordinary numbers, signs, infinities, NaN, and what is given back."""

import random
import unittest

from sixteendigits.decimals import op
from tests.helper import (INFINITY, LARGEST, MINUS_INFINITY, NAN, drawn, number, second_opinion, shown, turned, zero)

SUM, DIFFERENCE, PRODUCT, QUOTIENT = 0, 1, 2, 3
ALL_OPS = (SUM, DIFFERENCE, PRODUCT, QUOTIENT)


class OpCase(unittest.TestCase):
    def check(self, which, a, b, wanted):
        answer = op(which, a, b)
        if answer != [wanted]:
            self.fail(f"op {which} of {shown(a)} and {shown(b)}: {answer} where {shown(wanted)} is asked")


class Ordinary(OpCase):
    def test_sum(self):
        self.check(SUM, number(2), number(3), number(5))
        self.check(SUM, number(120, -2), number(34, -1), number(460, -2))
        self.check(SUM, number(-7), number(3), number(-4))
        self.check(SUM, number(7), number(-3), number(4))
        self.check(SUM, number(1, -1), number(2, -1), number(3, -1))
        self.check(SUM, number(5, 3), number(1), number(5001))

    def test_difference(self):
        self.check(DIFFERENCE, number(2), number(3), number(-1))
        self.check(DIFFERENCE, number(3), number(2), number(1))
        self.check(DIFFERENCE, number(-2), number(3), number(-5))
        self.check(DIFFERENCE, number(2), number(-3), number(5))
        self.check(DIFFERENCE, number(130, -2), number(107, -2), number(23, -2))
        self.check(DIFFERENCE, number(1), number(5, 3), number(-4999))

    def test_product(self):
        self.check(PRODUCT, number(2), number(3), number(6))
        self.check(PRODUCT, number(12, -1), number(50, 3), number(600, 2))
        self.check(PRODUCT, number(-12, 4), number(5, -9), number(-60, -5))
        self.check(PRODUCT, number(-12), number(-5), number(60))

    def test_quotient(self):
        self.check(QUOTIENT, number(6), number(3), number(2))
        self.check(QUOTIENT, number(60, -1), number(3, 2), number(20, -3))
        self.check(QUOTIENT, number(-1), number(4), number(-25, -2))
        self.check(QUOTIENT, number(-100), number(-10), number(10))
        self.check(QUOTIENT, number(1), number(3), number(3333333333333333, -16))

    def test_any_other_op_is_nan(self):
        for which in (-2147483648, -4, -3, -2, -1, 4, 5, 6, 7, 8, 256, 2147483647):
            for a in (number(6), zero(), INFINITY, MINUS_INFINITY, NAN):
                for b in (number(-3), zero(5, True), INFINITY, NAN):
                    self.check(which, a, b, NAN)


class Signs(OpCase):
    def test_sum_of_zeros(self):
        for first in (False, True):
            for second in (False, True):
                minus = first and second
                self.check(SUM, zero(3, first), zero(-2, second), zero(-2, minus))
                self.check(SUM, zero(-398, first), zero(369, second), zero(-398, minus))
                self.check(DIFFERENCE, zero(3, first), zero(-2, not second), zero(-2, minus))
                self.check(DIFFERENCE, zero(369, first), zero(369, not second), zero(369, minus))

    def test_sum_of_opposites(self):
        for minus in (False, True):
            x = number(50, -3, minus)
            same_value = number(5, -2, minus)
            self.check(SUM, x, turned(same_value), zero(-3))
            self.check(SUM, turned(same_value), x, zero(-3))
            self.check(DIFFERENCE, x, same_value, zero(-3))
            self.check(DIFFERENCE, same_value, x, zero(-3))

    def test_a_zero_added_to_another_number_leaves_its_sign(self):
        for minus in (False, True):
            for x in (number(5), number(-5)):
                self.check(SUM, x, zero(0, minus), x)
                self.check(SUM, zero(0, minus), x, x)
                self.check(DIFFERENCE, x, zero(0, minus), x)
                self.check(DIFFERENCE, zero(0, minus), x, turned(x))

    def test_products_and_quotients(self):
        for first in (False, True):
            for second in (False, True):
                minus = first != second
                five, two = number(5, 1, first), number(2, 3, second)
                self.check(PRODUCT, five, two, number(10, 4, minus))
                self.check(QUOTIENT, five, two, number(25, -3, minus))
                self.check(PRODUCT, zero(1, first), two, zero(4, minus))
                self.check(PRODUCT, five, zero(3, second), zero(4, minus))
                self.check(PRODUCT, zero(1, first), zero(3, second), zero(4, minus))
                self.check(QUOTIENT, zero(1, first), two, zero(-2, minus))


def infinity(minus):
    return MINUS_INFINITY if minus else INFINITY


class InfinitiesAndNan(OpCase):
    def pairs_of_signs(self):
        return [(first, second) for first in (False, True) for second in (False, True)]

    def test_sums_and_differences(self):
        for first, second in self.pairs_of_signs():
            both = infinity(first) if first == second else NAN
            self.check(SUM, infinity(first), infinity(second), both)
            self.check(DIFFERENCE, infinity(first), infinity(not second), both)
            for size in (0, 1, LARGEST):
                for exponent in (-398, 0, 369):
                    self.check(SUM, infinity(first), number(size, exponent, second), infinity(first))
                    self.check(SUM, number(size, exponent, first), infinity(second), infinity(second))
                    self.check(DIFFERENCE, infinity(first), number(size, exponent, second), infinity(first))
                    self.check(DIFFERENCE, number(size, exponent, first), infinity(second), infinity(not second))

    def test_products(self):
        for first, second in self.pairs_of_signs():
            answer = infinity(first != second)
            self.check(PRODUCT, infinity(first), infinity(second), answer)
            for exponent in (-398, 0, 369):
                self.check(PRODUCT, infinity(first), zero(exponent, second), NAN)
                self.check(PRODUCT, zero(exponent, first), infinity(second), NAN)
                for size in (1, LARGEST):
                    self.check(PRODUCT, infinity(first), number(size, exponent, second), answer)
                    self.check(PRODUCT, number(size, exponent, first), infinity(second), answer)

    def test_quotients(self):
        for first, second in self.pairs_of_signs():
            minus = first != second
            self.check(QUOTIENT, infinity(first), infinity(second), NAN)
            for exponent in (-398, 0, 369):
                self.check(QUOTIENT, zero(exponent, first), zero(5, second), NAN)
                for size in (0, 1, LARGEST):
                    self.check(QUOTIENT, infinity(first), number(size, exponent, second), infinity(minus))
                    self.check(QUOTIENT, number(size, exponent, first), infinity(second), zero(0, minus))
                for size in (1, LARGEST):
                    self.check(QUOTIENT, number(size, exponent, first), zero(7, second), infinity(minus))

    def test_nan_on_either_side(self):
        for which in ALL_OPS:
            self.check(which, NAN, NAN, NAN)
            for minus in (False, True):
                for other in (zero(0, minus), number(5, 2, minus), infinity(minus)):
                    self.check(which, NAN, other, NAN)
                    self.check(which, other, NAN, NAN)


class SecondOpinion(OpCase):
    def test_numbers_at_the_edges(self):
        sizes = (0, 1, 5, 10, 10 ** 8 + 1, 10 ** 15, 2 ** 53 - 1, 2 ** 53, 9999999999999990, LARGEST - 1, LARGEST)
        numbers = [number(size, exponent) for size in sizes for exponent in (-398, -397, -16, -1, 0, 15, 368, 369)]
        for which in ALL_OPS:
            for a in numbers:
                for b in numbers:
                    self.check(which, a, b, second_opinion(which, a, b))
                    self.check(which, a, turned(b), second_opinion(which, a, turned(b)))

    def test_drawn_numbers(self):
        source = random.Random(16)
        for turn in range(2000):
            near = turn % 2 == 0
            a, b = drawn(source, near), drawn(source, near)
            for which in ALL_OPS:
                self.check(which, a, b, second_opinion(which, a, b))


class GivenBack(unittest.TestCase):
    def test_a_list_of_one_int(self):
        for which in (-1, 0, 1, 2, 3, 4):
            for a in (zero(-398), number(1, -398), zero(0, True), number(5), number(-1, 369), INFINITY, NAN):
                for b in (zero(-398), number(1, -398), zero(0, True), number(5), number(-1, 369), INFINITY, NAN):
                    answer = op(which, a, b)
                    self.assertIs(type(answer), list)
                    self.assertEqual(len(answer), 1)
                    self.assertIs(type(answer[0]), int)

    def test_bits_0_and_1_are_answered_as_ints(self):
        self.assertEqual(op(SUM, 0, 0), [0])
        self.assertEqual(op(SUM, 0, 1), [1])
        self.assertIs(type(op(SUM, 0, 0)[0]), int)
        self.assertIs(type(op(SUM, 0, 1)[0]), int)

    def test_the_same_again(self):
        calls = [(which, a, b) for which in (-1, 0, 1, 2, 3, 4)
                 for a in (number(2), zero(), INFINITY, NAN) for b in (number(-3, 5), zero(2, True), MINUS_INFINITY)]
        first = [op(*call) for call in calls]
        for answer in [op(*call) for call in calls]:
            answer.append("changed by the caller")
        self.assertEqual([op(*call) for call in reversed(calls)], first[::-1])


if __name__ == "__main__":
    unittest.main()
