"""The 64 bits of numbers, as they are handed in and as they are answered, by way of op and root."""

import random
import unittest

from sixteendigits.decimals import op, root
from tests.helper import (INFINITY, LARGEST, MINUS, MINUS_INFINITY, NAN, first_form, is_allowed, number, second_form,
                          shown, zero)

# By each of these calls a number is answered as itself, whatever its exponent and its sign.
SAME_AGAIN = (
    lambda a: op(0, a, zero(369, True)),
    lambda a: op(0, zero(369, True), a),
    lambda a: op(1, a, zero(369)),
    lambda a: op(2, a, number(1)),
    lambda a: op(2, number(1), a),
    lambda a: op(3, a, number(1)),
)


class HandedIn(unittest.TestCase):
    def check(self, handed_in, wanted):
        for call in SAME_AGAIN:
            answer = call(handed_in)
            if answer != [wanted]:
                self.fail(f"{hex(handed_in)} is taken as {shown(answer[0])} where {shown(wanted)} is asked")

    def test_written_out(self):
        self.assertEqual(number(1), 0x31C0000000000001)
        self.check(0x31C0000000000001, number(1))
        self.check(0xB1C0000000000001, number(-1))
        self.check(0, zero(-398))
        self.check(0x8000000000000000, zero(-398, True))
        self.check(0x77FB86F26FC0FFFF, number(LARGEST, 369))
        self.assertEqual(op(0, 0x31C0000000000001, 0x31A0000000000019), [0x31A0000000000023])

    def test_both_forms_at_their_ends(self):
        for exponent in (-398, -397, -1, 0, 1, 113, 114, 368, 369):
            for minus in (0, MINUS):
                sign = minus != 0
                for coefficient in (0, 1, 10 ** 15, 2 ** 51, 2 ** 52, 2 ** 53 - 1):
                    handed_in = first_form(coefficient, exponent) + minus
                    self.check(handed_in, number(coefficient, exponent, sign))
                for coefficient in (2 ** 53, 2 ** 53 + 1, LARGEST - 1, LARGEST):
                    handed_in = second_form(coefficient, exponent) + minus
                    self.check(handed_in, number(coefficient, exponent, sign))

    def test_every_exponent(self):
        for exponent in range(-398, 370):
            self.check(first_form(1234567890123456, exponent), number(1234567890123456, exponent))
            self.check(second_form(9234567890123456, exponent), number(9234567890123456, exponent))

    def test_coefficients_above_the_largest_count_as_0(self):
        for exponent in (-398, -3, 0, 5, 369):
            for coefficient in (10 ** 16, 10 ** 16 + 1, 2 ** 53 + 2 ** 50, 2 ** 53 + 2 ** 51 - 1):
                handed_in = second_form(coefficient, exponent)
                self.check(handed_in, zero(exponent))
                self.check(handed_in + MINUS, zero(exponent, True))

    def test_such_a_0_is_one_in_every_call(self):
        nought = second_form(10 ** 16, 4)
        self.assertEqual(root(nought), [zero(2)])
        self.assertEqual(root(nought + MINUS), [zero(2, True)])
        self.assertEqual(op(2, nought, INFINITY), [NAN])
        self.assertEqual(op(3, nought, nought), [NAN])
        self.assertEqual(op(3, number(-1), nought), [MINUS_INFINITY])
        self.assertEqual(op(0, nought, nought + MINUS), [zero(4)])
        self.assertEqual(op(1, number(7, 4), nought), [number(7, 4)])

    def test_infinities_with_other_bits_set(self):
        for other in (1, 2 ** 50, 2 ** 53, 2 ** 57, 2 ** 58 - 1):
            self.check(INFINITY + other, INFINITY)
            self.check(MINUS_INFINITY + other, MINUS_INFINITY)
            self.assertEqual(root(INFINITY + other), [INFINITY])
            self.assertEqual(op(3, number(-1), INFINITY + other), [zero(0, True)])
            self.assertEqual(op(1, INFINITY + other, INFINITY), [NAN])

    def test_nan_with_other_bits_set(self):
        for other in (0, 1, 2 ** 50, 2 ** 57, 2 ** 58 - 1):
            for handed_in in (NAN + other, NAN + other + MINUS):
                self.check(handed_in, NAN)
                self.assertEqual(root(handed_in), [NAN])


class Answered(unittest.TestCase):
    def test_what_is_allowed(self):
        for bits in (0, number(LARGEST, 369), number(-LARGEST, -398), INFINITY, MINUS_INFINITY, NAN):
            self.assertTrue(is_allowed(bits))
        for bits in (second_form(10 ** 16, 0), INFINITY + 1, NAN + 1, NAN + MINUS, -1, 2 ** 64):
            self.assertFalse(is_allowed(bits))

    def test_the_form_that_the_coefficient_asks_for(self):
        below = number(2 ** 53 - 1)
        self.assertEqual(op(0, below, number(1)), [second_form(2 ** 53, 0)])
        self.assertEqual(op(1, second_form(2 ** 53, 0), number(1)), [first_form(2 ** 53 - 1, 0)])
        self.assertEqual(op(2, number(4503599627370496), number(2)), [second_form(2 ** 53, 0)])
        self.assertEqual(op(3, number(1), number(2 ** 53 - 1)), [number(1110223024625157, -31)])
        self.assertEqual(root(number(LARGEST)), [second_form(LARGEST, -8)])

    def test_nan_and_infinities(self):
        self.assertEqual(op(3, zero(), zero(0, True)), [31 * 2 ** 58])
        self.assertEqual(root(number(-1)), [31 * 2 ** 58])
        self.assertEqual(op(3, number(1), zero()), [0x7800000000000000])
        self.assertEqual(op(3, number(1), zero(0, True)), [0xF800000000000000])
        self.assertEqual(op(2, number(LARGEST, 369), number(-2)), [0xF800000000000000])

    def test_any_bits_handed_in(self):
        source = random.Random(64)
        odd_ones = [INFINITY + 5, MINUS_INFINITY + 5, NAN + MINUS + 5, second_form(10 ** 16, 3), 2 ** 64 - 1]
        for turn in range(1000):
            a = source.getrandbits(64)
            b = odd_ones[turn % 5] if turn % 3 == 0 else source.getrandbits(64)
            answers = [op(which, x, y)[0] for which in (-1, 0, 1, 2, 3, 4) for x, y in ((a, b), (b, a))]
            for answer in answers + [root(a)[0], root(b)[0]]:
                self.assertTrue(is_allowed(answer), (hex(a), hex(b), hex(answer)))


if __name__ == "__main__":
    unittest.main()
