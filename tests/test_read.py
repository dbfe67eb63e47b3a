"""Promise 10, read: which texts are numbers, and which number a text is that needs no rounding."""

import itertools
import random
import unittest

from sixteendigits.decimals import read
from tests.helper import (INFINITY, LARGEST, MINUS_INFINITY, NAN, OnlyRead, bytes_of, is_allowed, is_list_of_one_int,
                          number, second_opinion_on_read, shown, turned, zero)


class ReadCase(unittest.TestCase):
    def check(self, text, wanted):
        answer = read(bytes_of(text))
        if answer != [wanted]:
            self.fail(f"{text!r} read: {answer} where {shown(wanted)} is asked")

    def check_signs(self, text, wanted):
        self.check(text, wanted)
        self.check("+" + text, wanted)
        self.check("-" + text, wanted if wanted == NAN else turned(wanted))

    def check_all_nan(self, texts):
        for text in texts:
            self.check_signs(text, NAN)


class Digits(ReadCase):
    def test_without_a_point(self):
        for digit in range(1, 10):
            self.check_signs(str(digit), number(digit))
        self.check_signs("12", number(12))
        self.check_signs("120", number(120))
        self.check_signs("1234567890123456", number(1234567890123456))
        self.check_signs("9999999999999999", number(LARGEST))

    def test_the_point_behind(self):
        self.check_signs("1.", number(1))
        self.check_signs("120.", number(120))
        self.check_signs("1234567890123456.", number(1234567890123456))

    def test_the_point_between(self):
        self.check_signs("1.5", number(15, -1))
        self.check_signs("1.50", number(150, -2))
        self.check_signs("10.00", number(1000, -2))
        self.check_signs("0.5", number(5, -1))
        self.check_signs("0.0005", number(5, -4))
        self.check_signs("123456789.0123456", number(1234567890123456, -7))

    def test_the_point_before(self):
        self.check_signs(".5", number(5, -1))
        self.check_signs(".50", number(50, -2))
        self.check_signs(".0005", number(5, -4))
        self.check_signs(".1234567890123456", number(1234567890123456, -16))

    def test_zeros_in_front(self):
        self.check_signs("007", number(7))
        self.check_signs("00.70", number(70, -2))
        self.check_signs("0" * 30 + "1234567890123456", number(1234567890123456))

    def test_zeros(self):
        self.check_signs("0", zero(0))
        self.check_signs("0.", zero(0))
        self.check_signs(".0", zero(-1))
        self.check_signs("000", zero(0))
        self.check_signs("0.000", zero(-3))
        self.check_signs("0E5", zero(5))
        self.check_signs("0.00e-5", zero(-7))

    def test_no_digit(self):
        self.check_all_nan(["", ".", "..", "E", "e", "E5", "e5", ".E5", ".e5", "E+5", ".E", ".e-", "E.", "E-"])

    def test_two_points(self):
        self.check_all_nan(["1..5", "1.5.", ".1.5", "..5", "5..", "1.2.3", "1.2.3E4", "...", ".5."])

    def test_signs(self):
        for text in ("", "5", "1.5", ".5", "5.", "5E2", "inf"):
            for two in ("++", "--", "+-", "-+"):
                self.check(two + text, NAN)
        self.check_all_nan(["5+", "5-", "1+5", "1-5", "1.+5", "1.-5", ".-5", ".+5", "5.-", "1.5+", "5E2-", "5E2+",
                            "5-E2", "5+E2"])
        self.check("+", NAN)
        self.check("-", NAN)


class Exponents(ReadCase):
    def test_each_letter_and_sign(self):
        for letter in "Ee":
            self.check_signs(f"5{letter}2", number(5, 2))
            self.check_signs(f"5{letter}+2", number(5, 2))
            self.check_signs(f"5{letter}-2", number(5, -2))
            self.check_signs(f"1.25{letter}2", number(125, 0))
            self.check_signs(f"1.25{letter}+12", number(125, 10))
            self.check_signs(f"1.25{letter}-12", number(125, -14))
            self.check_signs(f".25{letter}3", number(25, 1))
            self.check_signs(f"25.{letter}3", number(25, 3))

    def test_zeros(self):
        for written in ("0", "00", "000", "0000", "+0", "-0", "+0000", "-0000"):
            self.check_signs("5E" + written, number(5))

    def test_one_to_four_digits(self):
        for written in ("7", "07", "007", "0007"):
            self.check_signs("5E" + written, number(5, 7))
            self.check_signs("5E+" + written, number(5, 7))
            self.check_signs("5E-" + written, number(5, -7))
        for written in ("34", "034", "0034"):
            self.check_signs("5e" + written, number(5, 34))
            self.check_signs("5e-" + written, number(5, -34))
        for written in ("345", "0345"):
            self.check_signs("5e" + written, number(5, 345))
            self.check_signs("5e-" + written, number(5, -345))
        self.check_signs("5E9999", INFINITY)
        self.check_signs("5E-9999", zero(-398))
        self.check_signs("5E1000", INFINITY)
        self.check_signs("5E-1000", zero(-398))

    def test_six_digits_and_no_more(self):
        self.check_signs("5E00007", number(5, 7))
        self.check_signs("5E-000007", number(5, -7))
        self.check_signs("5E999999", INFINITY)
        self.check_signs("5E-999999", zero(-398))
        self.check_signs("0E-999999", zero(-398))
        self.check_all_nan(["5E0000007", "5E-0000007", "5E1000000", "0E0000000"])

    def test_no_digit_behind(self):
        self.check_all_nan(["5E", "5e", "5E+", "5E-", "5e+", "5e-", "1.5E", "5.E", ".5e", "0E", "0e-"])

    def test_nearly_exponents(self):
        self.check_all_nan(["5EE2", "5Ee2", "5eE2", "5E2E", "5E2E3", "5E2e3", "5e2E", "5E.2", "5E2.", "5E2.0", "5E--2",
                            "5E++2", "5E+-2", "5E2+", "5E-2-", "5E 2", "5 E2", "5D2", "5x2", "5^2", "5E2 "])


class Infinities(ReadCase):
    def test_inf(self):
        self.check("inf", INFINITY)
        self.check("+inf", INFINITY)
        self.check("-inf", MINUS_INFINITY)

    def test_letters_of_another_size(self):
        for letters in itertools.product("iI", "nN", "fF"):
            text = "".join(letters)
            if text != "inf":
                self.check_signs(text, NAN)

    def test_nearly_inf(self):
        self.check_all_nan(["i", "n", "f", "in", "if", "nf", "fni", "inff", "iinf", "innf", "infinity", "Infinity",
                            "infi", "inf.", ".inf", "inf5", "5inf", "0inf", "inf0", "infE5", "infe5", "5Einf", "5Ein",
                            "inf inf", "infinf", " inf", "inf ", "i nf", "inf+", "inf-", "1nf", "inf\0", "in\xe6"])

    def test_every_text_one_byte_away(self):
        for text in ("inf", "+inf", "-inf"):
            near = set()
            for place in range(len(text) + 1):
                near.add(text[:place] + text[place + 1:])
                for byte in range(256):
                    near.add(text[:place] + chr(byte) + text[place:])
                    near.add(text[:place] + chr(byte) + text[place + 1:])
            for other in near:
                wanted = {"inf": INFINITY, "+inf": INFINITY, "-inf": MINUS_INFINITY}.get(other, NAN)
                self.check(other, wanted)

    def test_nan(self):
        self.check_all_nan(["nan", "NaN", "NAN", "snan", "nan0"])


class OtherBytes(ReadCase):
    def test_no_bytes(self):
        self.assertEqual(read([]), [NAN])

    def test_each_byte_alone(self):
        for byte in range(256):
            wanted = number(byte - 48) if 48 <= byte <= 57 else NAN
            self.check(chr(byte), wanted)

    def test_blanks(self):
        for blank in (" ", "\t", "\n", "\r", "\0", "\x0b", "\x0c", "\x1c", "\x85", "\xa0"):
            for text in ("5", "-5", "1.5", "5E2", "inf", "-inf"):
                for place in range(len(text) + 1):
                    self.check(text[:place] + blank + text[place:], NAN)
            self.check(blank, NAN)

    def test_what_python_would_read(self):
        self.check_all_nan(["1_000", "1_0", "1E1_0", "0x10", "0b1", "0o7", "1,5", "1'000", "5L", "5j", "1/2"])

    def test_every_byte_at_every_place(self):
        text = "-1.5E-2"
        for place in range(len(text) + 1):
            for byte in range(256):
                added = text[:place] + chr(byte) + text[place:]
                self.check(added, second_opinion_on_read(added))
                changed = text[:place] + chr(byte) + text[place + 1:]
                self.check(changed, second_opinion_on_read(changed))

    def test_bytes_from_128_on(self):
        for byte in range(128, 256):
            self.check_all_nan([chr(byte), "5" + chr(byte), chr(byte) + "5", "5E" + chr(byte), "5E2" + chr(byte)])
        # Python's texts take some of these for digits.
        self.check_all_nan(["\xb2", "\xb3", "\xb9", "1\xb2", "5E\xb2"])


class Lengths(ReadCase):
    def test_400_bytes_and_more(self):
        for length in (398, 399, 400, 401, 402, 450, 499, 500):
            for text in ("0" * (length - 1) + "7", "7." + "0" * (length - 2), "." + "0" * (length - 1), "0" * length,
                         "-" + "0" * (length - 4) + "7E5", "9" * length, "9" * (length - 5) + "E-390"):
                self.assertEqual(len(text), length)
                self.check(text, second_opinion_on_read(text))

    def test_zeros_in_front(self):
        self.check("0" * 399 + "7", number(7))
        self.check("0" * 400 + "7", NAN)
        self.check("0" * 499 + "7", NAN)
        self.check("-" + "0" * 398 + "7", number(-7))
        self.check("-" + "0" * 399 + "7", NAN)
        self.check("0" * 397 + "7E5", number(7, 5))
        self.check("0" * 398 + "7E5", NAN)

    def test_zeros_behind(self):
        self.check("7" + "0" * 384, number(7 * 10 ** 15, 369))
        self.check("7" + "0" * 385, INFINITY)
        self.check("7" + "0" * 399, INFINITY)
        self.check("7" + "0" * 400, NAN)
        self.check("7" + "0" * 394 + "E-394", number(7 * 10 ** 15, -15))
        self.check("7" + "0" * 395 + "E-395", NAN)

    def test_zeros_behind_the_point(self):
        self.check("7." + "0" * 398, number(7 * 10 ** 15, -15))
        self.check("7." + "0" * 399, NAN)
        self.check("." + "0" * 398 + "7", number(1, -398))
        self.check("." + "0" * 398 + "4", zero(-398))
        self.check("." + "0" * 397 + "7", number(7, -398))
        self.check("." + "0" * 399, zero(-398))
        self.check("." + "0" * 400, NAN)
        self.check("." + "0" * 394 + "7E395", number(7))
        self.check("." + "0" * 395 + "7E396", NAN)

    def test_long_texts_that_are_none(self):
        self.check("0" * 399 + " ", NAN)
        self.check("." * 400, NAN)
        self.check(" " * 500, NAN)
        self.check("E" * 400, NAN)


class EveryShortText(ReadCase):
    def test_up_to_five_letters(self):
        for length in range(6):
            for letters in itertools.product("+-.07Ee", repeat=length):
                text = "".join(letters)
                answer = read(bytes_of(text))[0]
                if answer != second_opinion_on_read(text):
                    self.fail(f"{text!r} read: {answer} where {shown(second_opinion_on_read(text))} is asked")

    def test_drawn_texts(self):
        source = random.Random(10)
        for turn in range(5000):
            text = "".join(source.choice("+-.0123456789Ee inf") for place in range(source.randint(0, 7)))
            if turn % 2 == 0:
                text = "1" + text
            self.check(text, second_opinion_on_read(text))


class GivenBack(unittest.TestCase):
    HANDED_IN = [bytes_of(text) for text in ("", "0", "-0", "1.5E3", "inf", "-inf", "nan", "5E9999", "5E-9999", "5E",
                                             "0" * 400, "0" * 401, "9" * 400, " ", "\xff", "-12345678901234565")]

    def test_a_list_of_one_int(self):
        for the_bytes in self.HANDED_IN:
            answer = read(list(the_bytes))
            self.assertTrue(is_list_of_one_int(answer), the_bytes)
            self.assertTrue(is_allowed(answer[0]), the_bytes)

    def test_the_same_again(self):
        first = [read(list(the_bytes)) for the_bytes in self.HANDED_IN]
        for answer in [read(list(the_bytes)) for the_bytes in self.HANDED_IN]:
            answer.append("changed by the caller")
        self.assertEqual([read(list(the_bytes)) for the_bytes in reversed(self.HANDED_IN)], first[::-1])

    def test_what_is_handed_in_stays(self):
        for the_bytes in self.HANDED_IN:
            handed_in = list(the_bytes)
            read(handed_in)
            self.assertEqual(handed_in, the_bytes)

    def test_not_changed_for_a_while_either(self):
        for the_bytes in self.HANDED_IN:
            self.assertEqual(read(OnlyRead(the_bytes)), read(list(the_bytes)))


if __name__ == "__main__":
    unittest.main()
