"""Promise 9, write."""

import random
import unittest

from sixteendigits.decimals import read, write
from tests.helper import (INFINITY, LARGEST, MINUS, MINUS_INFINITY, NAN, bytes_of, drawn, first_form, number,
                          second_form, second_opinion_on_write, shown, turned, zero)


class WriteCase(unittest.TestCase):
    def check(self, a, wanted):
        answer = write(a)
        if answer != [len(wanted)] + bytes_of(wanted):
            self.fail(f"{shown(a)} written: {answer} where {wanted!r} is asked")

    def check_both_signs(self, a, wanted):
        self.check(a, wanted)
        self.check(turned(a), "-" + wanted)


class Numbers(WriteCase):
    def test_one_digit(self):
        for digit in range(1, 10):
            self.check_both_signs(number(digit), f"{digit}E0")

    def test_some_digits(self):
        self.check_both_signs(number(12), "12E0")
        self.check_both_signs(number(25, -1), "25E-1")
        self.check_both_signs(number(1234567, 89), "1234567E89")
        self.check_both_signs(number(1234567, -89), "1234567E-89")
        self.check_both_signs(number(10203), "10203E0")

    def test_sixteen_digits(self):
        self.check_both_signs(number(1234567890123456), "1234567890123456E0")
        self.check_both_signs(number(LARGEST), "9999999999999999E0")
        self.check_both_signs(number(LARGEST, 369), "9999999999999999E369")
        self.check_both_signs(number(LARGEST, -398), "9999999999999999E-398")
        self.check_both_signs(number(1000000000000001, -15), "1000000000000001E-15")

    def test_every_length(self):
        for length in range(1, 17):
            self.check_both_signs(number(int("7" * length), -length), "7" * length + f"E-{length}")

    def test_zeros_behind_stay(self):
        self.check_both_signs(number(10), "10E0")
        self.check_both_signs(number(100, -2), "100E-2")
        self.check_both_signs(number(2500, -3), "2500E-3")
        self.check_both_signs(number(10 ** 15, -15), "1000000000000000E-15")
        self.check_both_signs(number(9999999999999000, 4), "9999999999999000E4")

    def test_exponents(self):
        for exponent in range(-398, 370):
            self.check_both_signs(number(5, exponent), f"5E{exponent}")
        self.check_both_signs(number(1, 369), "1E369")
        self.check_both_signs(number(1, -398), "1E-398")


class Others(WriteCase):
    def test_zeros(self):
        for exponent in (-398, -397, -100, -10, -1, 0, 1, 10, 100, 368, 369):
            self.check(zero(exponent), f"0E{exponent}")
            self.check(zero(exponent, True), f"-0E{exponent}")

    def test_infinities_and_nan(self):
        self.check(INFINITY, "inf")
        self.check(MINUS_INFINITY, "-inf")
        self.check(NAN, "nan")

    def test_written_out(self):
        self.assertEqual(write(number(1)), [3, 49, 69, 48])
        self.assertEqual(write(number(-25, -1)), [6, 45, 50, 53, 69, 45, 49])
        self.assertEqual(write(zero(0)), [3, 48, 69, 48])
        self.assertEqual(write(INFINITY), [3, 105, 110, 102])
        self.assertEqual(write(MINUS_INFINITY), [4, 45, 105, 110, 102])
        self.assertEqual(write(NAN), [3, 110, 97, 110])


class HandedIn(WriteCase):
    def test_both_forms_at_their_ends(self):
        for exponent in (-398, -1, 0, 1, 369):
            for coefficient in (0, 1, 10 ** 15, 2 ** 51, 2 ** 52, 2 ** 53 - 1):
                self.check_both_signs(first_form(coefficient, exponent), f"{coefficient}E{exponent}")
            for coefficient in (2 ** 53, 2 ** 53 + 1, LARGEST - 1, LARGEST):
                self.check_both_signs(second_form(coefficient, exponent), f"{coefficient}E{exponent}")

    def test_coefficients_above_the_largest_count_as_0(self):
        for coefficient in (10 ** 16, 10 ** 16 + 1, 2 ** 53 + 2 ** 50, 2 ** 53 + 2 ** 51 - 1):
            for exponent in (-398, -1, 0, 1, 369):
                self.check_both_signs(second_form(coefficient, exponent), f"0E{exponent}")

    def test_infinities_and_nan_with_other_bits_set(self):
        for other in (0, 1, 2 ** 50, 2 ** 53, 2 ** 57, 2 ** 58 - 1):
            self.check(INFINITY + other, "inf")
            self.check(MINUS_INFINITY + other, "-inf")
            self.check(NAN + other, "nan")
            self.check(NAN + other + MINUS, "nan")


class SecondOpinion(WriteCase):
    def test_drawn_numbers(self):
        source = random.Random(9)
        for turn in range(3000):
            a = drawn(source, turn % 3 == 0)
            self.check(a, second_opinion_on_write(a))

    def test_any_bits(self):
        source = random.Random(99)
        for turn in range(3000):
            a = source.getrandbits(64)
            self.check(a, second_opinion_on_write(a))


class ReadAgain(unittest.TestCase):
    def check(self, a):
        answer = read(write(a)[1:])
        if answer != [a]:
            self.fail(f"{shown(a)} written and read again: {answer}")

    def test_numbers_at_the_edges(self):
        for coefficient in (0, 1, 9, 10, 100, 10 ** 15, 2 ** 53 - 1, 2 ** 53, 9999999999999990, LARGEST):
            for exponent in range(-398, 370):
                self.check(number(coefficient, exponent))
                self.check(number(coefficient, exponent, True))

    def test_drawn_numbers(self):
        source = random.Random(999)
        for turn in range(3000):
            self.check(drawn(source, turn % 3 == 0))

    def test_infinities_and_nan(self):
        for a in (INFINITY, MINUS_INFINITY, NAN):
            self.check(a)

    def test_bits_that_are_not_answered(self):
        # They come back as the number that they tell.
        for other in (1, 2 ** 50, 2 ** 58 - 1):
            self.assertEqual(read(write(INFINITY + other)[1:]), [INFINITY])
            self.assertEqual(read(write(MINUS_INFINITY + other)[1:]), [MINUS_INFINITY])
            self.assertEqual(read(write(NAN + other + MINUS)[1:]), [NAN])
        self.assertEqual(read(write(second_form(10 ** 16, -7) + MINUS)[1:]), [zero(-7, True)])


class GivenBack(unittest.TestCase):
    HANDED_IN = (0, 1, 2 ** 64 - 1, zero(), zero(5, True), number(1), number(-1), number(25, -1), number(LARGEST, 369),
                 number(-LARGEST, -398), INFINITY, MINUS_INFINITY, NAN, second_form(10 ** 16, 0))

    def test_how_many_bytes_then_they(self):
        for a in self.HANDED_IN:
            answer = write(a)
            self.assertIs(type(answer), list)
            for value in answer:
                self.assertIs(type(value), int)
            self.assertEqual(answer[0], len(answer) - 1)
            for byte in answer[1:]:
                self.assertIn(byte, range(256))

    def test_the_same_again(self):
        first = [write(a) for a in self.HANDED_IN]
        for answer in [write(a) for a in self.HANDED_IN]:
            answer.append("changed by the caller")
        self.assertEqual([write(a) for a in reversed(self.HANDED_IN)], first[::-1])


if __name__ == "__main__":
    unittest.main()
