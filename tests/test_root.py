"""Promise 2, root."""

import random
import unittest

from sixteendigits.decimals import root
from tests.helper import (INFINITY, LARGEST, MINUS, MINUS_INFINITY, NAN, drawn, number, second_opinion_on_root, shown,
                          zero)


class RootCase(unittest.TestCase):
    def check(self, a, wanted):
        answer = root(a)
        if answer != [wanted]:
            self.fail(f"root of {shown(a)}: {answer} where {shown(wanted)} is asked")


class Roots(RootCase):
    def test_exact_of_even_exponents(self):
        self.check(number(1), number(1))
        self.check(number(4), number(2))
        self.check(number(100), number(10))
        self.check(number(144, 6), number(12, 3))
        self.check(number(400, -2), number(20, -1))
        self.check(number(9, 368), number(3, 184))
        self.check(number(9, -398), number(3, -199))
        self.check(number(99999999 * 99999999), number(99999999))

    def test_exact_of_odd_exponents(self):
        self.check(number(40, 1), number(20))
        self.check(number(10, 3), number(10, 1))
        self.check(number(90, -1), number(30, -1))
        self.check(number(10, -3), number(10, -2))
        self.check(number(10, 369), number(10, 184))
        self.check(number(40, -397), number(20, -199))
        self.check(number(9999999619461760, -1), number(316227760, -1))
        self.check(number(9999999619461760, 5), number(316227760, 2))

    def test_inexact_of_even_exponents(self):
        self.check(number(2), number(1414213562373095, -15))
        self.check(number(3), number(1732050807568877, -15))
        self.check(number(5), number(2236067977499790, -15))
        self.check(number(2, 6), number(1414213562373095, -12))
        self.check(number(2, -6), number(1414213562373095, -18))
        self.check(number(7, 368), number(2645751311064591, 169))
        self.check(number(7, -398), number(2645751311064591, -214))

    def test_inexact_of_odd_exponents(self):
        self.check(number(2, 1), number(4472135954999579, -15))
        self.check(number(2, -1), number(4472135954999579, -16))
        self.check(number(1, 1), number(3162277660168379, -15))
        self.check(number(1, -1), number(3162277660168379, -16))
        self.check(number(1, 369), number(3162277660168379, 169))
        self.check(number(1, -397), number(3162277660168379, -214))

    def test_just_beside_the_half_between_two(self):
        # 99999999.99999999|499.. and 1.000000000000000|499..: the first seventeen digits alone would mislead.
        self.check(number(LARGEST), number(LARGEST, -8))
        self.check(number(LARGEST, -398), number(LARGEST, -207))
        self.check(number(1000000000000001, -15), number(10 ** 15, -15))
        self.check(number(1000000000000003, -15), number(1000000000000001, -15))

    def test_the_nearest_by_its_square(self):
        for size in (2, 3, 7, 11, 12, 99, 101, 2 ** 53 - 1, 2 ** 53 + 1, 10 ** 15 + 3, LARGEST - 1, LARGEST):
            for exponent in (-30, -29):
                bits = root(number(size, exponent))[0]
                found, place = self.taken_apart(bits)
                self.assertTrue(10 ** 15 <= found <= LARGEST)
                value = 4 * size * 10 ** (exponent - 2 * place)
                self.assertTrue((2 * found - 1) ** 2 < value < (2 * found + 1) ** 2, shown(bits))

    def taken_apart(self, bits):
        if bits >> 61 == 3:
            return 2 ** 53 + (bits & 2 ** 51 - 1), (bits >> 51 & 1023) - 398
        return bits & 2 ** 53 - 1, (bits >> 53) - 398

    def test_second_opinion(self):
        source = random.Random(2)
        for turn in range(3000):
            a = drawn(source, turn % 2 == 0)
            self.check(a, second_opinion_on_root(a))
        for turn in range(500):
            side = source.randrange(1, 10 ** 8)
            for a in (number(side * side, source.randint(-398, 369)), number(side, source.randint(-398, 369))):
                self.check(a, second_opinion_on_root(a))


class Edges(RootCase):
    def test_zeros(self):
        for exponent, wanted in ((0, 0), (1, 0), (2, 1), (-1, -1), (-2, -1), (-3, -2), (7, 3), (369, 184), (368, 184),
                                 (-398, -199), (-397, -199)):
            self.check(zero(exponent), zero(wanted))
            self.check(zero(exponent, True), zero(wanted, True))

    def test_infinities(self):
        self.check(INFINITY, INFINITY)
        self.check(INFINITY + 12345, INFINITY)
        self.check(MINUS_INFINITY, NAN)
        self.check(MINUS_INFINITY + 12345, NAN)

    def test_below_0(self):
        for size in (1, 4, LARGEST):
            for exponent in (-398, -1, 0, 369):
                self.check(number(-size, exponent), NAN)

    def test_nan(self):
        for bits in (NAN, NAN + 1, NAN + MINUS, 2 ** 63 - 1, 2 ** 64 - 1):
            self.check(bits, NAN)


class GivenBack(unittest.TestCase):
    HANDED_IN = (0, 1, zero(0), zero(5, True), number(4), number(2), number(-4), INFINITY, MINUS_INFINITY, NAN)

    def test_a_list_of_one_int(self):
        for a in self.HANDED_IN:
            answer = root(a)
            self.assertIs(type(answer), list)
            self.assertEqual(len(answer), 1)
            self.assertIs(type(answer[0]), int)

    def test_the_same_again(self):
        first = [root(a) for a in self.HANDED_IN]
        for answer in [root(a) for a in self.HANDED_IN]:
            answer.append("changed by the caller")
        self.assertEqual([root(a) for a in reversed(self.HANDED_IN)], first[::-1])


if __name__ == "__main__":
    unittest.main()
