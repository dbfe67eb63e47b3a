"""Promise 10, read: the number that a text is rounded to, and its exponent."""

import random
import unittest

from sixteendigits.decimals import read
from tests.helper import (INFINITY, LARGEST, bytes_of, first_form, is_allowed, number, second_form,
                          second_opinion_on_read, shown, turned, zero)


class RoundedCase(unittest.TestCase):
    def check_one(self, text, wanted):
        answer = read(bytes_of(text))
        if answer != [wanted]:
            self.fail(f"{text!r} read: {answer} where {shown(wanted)} is asked")

    def check(self, text, wanted):
        self.check_one(text, wanted)
        self.check_one("+" + text, wanted)
        self.check_one("-" + text, turned(wanted))


class Exact(RoundedCase):
    def test_sixteen_digits_and_fewer_keep_the_wanted_exponent(self):
        for length in range(1, 17):
            digits = "1234567890123456"[:length]
            for point in range(length + 1):
                for written in (-300, -5, 0, 5, 300):
                    text = f"{digits[:point]}.{digits[point:]}E{written}"
                    self.check(text, number(int(digits), written - (length - point)))

    def test_zeros_behind_are_kept(self):
        self.check("1.000000000000000", number(10 ** 15, -15))
        self.check("2.50", number(250, -2))
        self.check("100E-2", number(100, -2))
        self.check("100E2", number(100, 2))

    def test_zeros_in_front_are_no_digits(self):
        self.check("0.00000000000000000000000000000000000001234567890123456", number(1234567890123456, -53))
        self.check("00000000000000000000000000.1234567890123456", number(1234567890123456, -16))

    def test_longer_ones_have_the_nearest_exponent(self):
        self.check("10000000000000000", number(10 ** 15, 1))
        self.check("100000000000000000000", number(10 ** 15, 5))
        self.check("12345678901234560", number(1234567890123456, 1))
        self.check("12345678901234500", number(1234567890123450, 1))
        self.check("1.0000000000000000", number(10 ** 15, -15))
        self.check("1.00000000000000000000000000", number(10 ** 15, -15))
        self.check("2.5000000000000000000000", number(25 * 10 ** 14, -15))
        self.check("1234567890123456.000", number(1234567890123456))
        self.check("1234567890123456000E-10", number(1234567890123456, -7))
        self.check("1" + "0" * 300, number(10 ** 15, 285))
        self.check("1." + "0" * 300, number(10 ** 15, -15))


class Nearest(RoundedCase):
    def test_seventeen_digits(self):
        self.check("12345678901234561", number(1234567890123456, 1))
        self.check("12345678901234564", number(1234567890123456, 1))
        self.check("12345678901234565", number(1234567890123456, 1))
        self.check("12345678901234566", number(1234567890123457, 1))
        self.check("12345678901234574", number(1234567890123457, 1))
        self.check("12345678901234575", number(1234567890123458, 1))
        self.check("12345678901234576", number(1234567890123458, 1))

    def test_with_points_and_exponents(self):
        self.check("1.2345678901234565", number(1234567890123456, -15))
        self.check("1.2345678901234575E7", number(1234567890123458, -8))
        self.check(".12345678901234575", number(1234567890123458, -16))
        self.check("1234567890123457.5e-100", number(1234567890123458, -100))
        self.check("12345678901234565E300", number(1234567890123456, 301))

    def test_longer_ones_around_the_half(self):
        for places in (1, 2, 10, 100, 300, 368):
            self.check("12345678901234564" + "9" * places, number(1234567890123456, 1 + places))
            self.check("12345678901234565" + "0" * places, number(1234567890123456, 1 + places))
            self.check("12345678901234565" + "0" * (places - 1) + "1", number(1234567890123457, 1 + places))
            self.check("12345678901234575" + "0" * places, number(1234567890123458, 1 + places))

    def test_a_digit_far_behind_the_half(self):
        for places in (1, 20, 100, 300, 380):
            zeros = "0" * places
            self.check(f"1.2345678901234565{zeros}", number(1234567890123456, -15))
            self.check(f"1.2345678901234565{zeros}1", number(1234567890123457, -15))
            self.check(f"1.2345678901234564{'9' * places}", number(1234567890123456, -15))
            self.check(f"1.2345678901234575{zeros}", number(1234567890123458, -15))
            self.check(f"1.2345678901234574{'9' * places}", number(1234567890123457, -15))

    def test_one_digit_more(self):
        self.check("99999999999999994", number(LARGEST, 1))
        self.check("99999999999999995", number(10 ** 15, 2))
        self.check("9.9999999999999995", number(10 ** 15, -14))
        self.check("9.9999999999999999", number(10 ** 15, -14))
        self.check("0.99999999999999999", number(10 ** 15, -15))
        self.check("9" * 100, number(10 ** 15, 85))
        self.check("." + "9" * 398, number(10 ** 15, -15))


class Largest(RoundedCase):
    def test_wanted_exponents_above_the_highest(self):
        self.check("1E369", number(1, 369))
        self.check("1E370", number(10, 369))
        self.check("1E384", number(10 ** 15, 369))
        self.check("9E384", number(9 * 10 ** 15, 369))
        self.check("123E382", number(123 * 10 ** 13, 369))
        self.check("1.23E384", number(123 * 10 ** 13, 369))
        self.check("999999999999999E370", number(9999999999999990, 369))
        self.check("9999999999999999E369", number(LARGEST, 369))
        self.check("9.999999999999999E384", number(LARGEST, 369))
        self.check(".0001E388", number(10 ** 15, 369))
        self.check("." + "0" * 300 + "1E685", number(10 ** 15, 369))

    def test_past_it(self):
        self.check("1E385", INFINITY)
        self.check("10E384", INFINITY)
        self.check("9999999999999999E370", INFINITY)
        self.check("1234567890123456E370", INFINITY)
        self.check("123456789012345E371", INFINITY)
        self.check("1E9999", INFINITY)
        self.check("0.0000000001E9999", INFINITY)
        self.check("9" * 386, INFINITY)

    def test_around_the_half_past_it(self):
        self.check("9.9999999999999994E384", number(LARGEST, 369))
        self.check("9.99999999999999949999999999E384", number(LARGEST, 369))
        self.check("9.9999999999999995E384", INFINITY)
        self.check("9.9999999999999996E384", INFINITY)
        self.check("9.999999999999999" + "4" + "9" * 300 + "E384", number(LARGEST, 369))
        self.check("9.999999999999999" + "5" + "0" * 300 + "E384", INFINITY)
        self.check("9999999999999999499E366", number(LARGEST, 369))
        self.check("9999999999999999500E366", INFINITY)


class Lowest(RoundedCase):
    def test_nothing_lost(self):
        self.check("1E-398", number(1, -398))
        self.check("10E-399", number(1, -398))
        self.check("1000E-400", number(10, -398))
        self.check("1.0E-398", number(1, -398))
        self.check("1.50E-397", number(15, -398))
        self.check("7" + "0" * 200 + "E-598", number(7, -398))
        self.check("7" + "0" * 200 + "E-590", number(7 * 10 ** 8, -398))
        self.check("1234567890123456E-398", number(1234567890123456, -398))
        self.check("1234567890123456000E-401", number(1234567890123456, -398))
        self.check("0." + "0" * 380 + "1E-17", number(1, -398))

    def test_something_lost(self):
        self.check("11E-399", number(1, -398))
        self.check("14E-399", number(1, -398))
        self.check("15E-399", number(2, -398))
        self.check("16E-399", number(2, -398))
        self.check("25E-399", number(2, -398))
        self.check("2500001E-404", number(3, -398))
        self.check("35E-399", number(4, -398))
        self.check("1234567890123456E-400", number(12345678901235, -398))
        self.check("1234567890123456E-412", number(12, -398))
        self.check("9999999999999999E-399", number(10 ** 15, -398))
        self.check("99999999999999994E-399", number(LARGEST, -398))
        self.check("99999999999999995E-399", number(10 ** 15, -397))

    def test_rounded_once_only(self):
        # Rounded to sixteen digits first, these would be at the half, and then go the wrong way.
        self.check("14999999999999999999E-417", number(1, -398))
        self.check("24999999999999999999E-417", number(2, -398))
        self.check("4999999999999999999E-417", zero(-398))
        self.check("250000000000000000001E-418", number(3, -398))
        self.check("50000000000000000001E-418", number(1, -398))

    def test_down_to_0(self):
        self.check("6E-399", number(1, -398))
        self.check("5E-399", zero(-398))
        self.check("51E-400", number(1, -398))
        self.check("5" + "0" * 300 + "1E-700", number(1, -398))
        self.check("5" + "0" * 300 + "0E-700", zero(-398))
        self.check("4" + "9" * 300 + "9E-700", zero(-398))
        self.check("4E-399", zero(-398))
        self.check("1E-399", zero(-398))
        self.check("9E-400", zero(-398))
        self.check("1E-400", zero(-398))
        self.check("9999999999999999E-415", zero(-398))
        self.check("9999999999999999E-414", number(1, -398))
        self.check("1E-9999", zero(-398))
        self.check("9" * 390 + "E-9999", zero(-398))
        self.check("." + "0" * 390 + "1E-9999", zero(-398))


class Zeros(RoundedCase):
    def test_wanted_exponents_within(self):
        for exponent in (-398, -397, -10, -1, 0, 1, 10, 368, 369):
            self.check(f"0E{exponent}", zero(exponent))
            self.check(f"0000E{exponent}", zero(exponent))
        self.check("0.0", zero(-1))
        self.check("0.00E2", zero(0))
        self.check(".000E372", zero(369))
        self.check("0.0E-397", zero(-398))
        self.check("0" * 300, zero(0))
        self.check("0." + "0" * 300, zero(-300))

    def test_wanted_exponents_outside(self):
        for exponent in (370, 371, 385, 400, 999, 1000, 9999):
            self.check(f"0E{exponent}", zero(369))
            self.check(f"0E-{exponent + 29}", zero(-398))
        self.check("0.0E371", zero(369))
        self.check("0.0E-398", zero(-398))
        self.check("0.0E-9999", zero(-398))
        self.check("0." + "0" * 390 + "E-20", zero(-398))


class Answered(RoundedCase):
    def test_the_form_that_the_coefficient_asks_for(self):
        self.check("9007199254740991", first_form(2 ** 53 - 1, 0))
        self.check("9007199254740992", second_form(2 ** 53, 0))
        self.check("9999999999999999E369", second_form(LARGEST, 369))
        self.check("90071992547409914", first_form(2 ** 53 - 1, 1))
        self.check("90071992547409915", second_form(2 ** 53, 1))

    def test_written_out(self):
        self.check_one("1", 0x31C0000000000001)
        self.check_one("-1", 0xB1C0000000000001)
        self.check_one("0", 0x31C0000000000000)
        self.check_one("-0", 0xB1C0000000000000)
        self.check_one("inf", 0x7800000000000000)
        self.check_one("-inf", 0xF800000000000000)
        self.check_one("nan", 8935141660703064064)


class SecondOpinion(RoundedCase):
    def drawn_text(self, source):
        length = source.choice((1, 5, 15, 16, 17, 18, 20, 35, 100, 380))
        digits = str(source.randrange(10 ** length))
        if source.randrange(3) == 0:
            # At a half, or all but.
            digits = digits[:16] + source.choice("45") + source.choice("09") * source.randint(0, 300)
            digits += source.choice(("", "0", "1"))
        if source.randrange(3) == 0:
            digits = digits[:source.randint(1, len(digits))] + "0" * source.randint(0, 40)
        point = source.randint(0, len(digits))
        if source.randrange(3) > 0:
            digits = digits[:point] + "." + digits[point:]
        written = source.choice((source.randint(-20, 20), source.randint(-420, 390), source.randint(-800, 800),
                                 source.choice((-398, -399, -414, 369, 370, 385)), source.randint(-9999, 9999)))
        return source.choice(("", "+", "-")) + digits + (f"E{written}" if source.randrange(4) > 0 else "")

    def test_drawn_texts(self):
        source = random.Random(1010)
        for turn in range(6000):
            text = self.drawn_text(source)
            self.check_one(text, second_opinion_on_read(text))

    def test_only_allowed_bits(self):
        source = random.Random(101010)
        for turn in range(1000):
            answer = read(bytes_of(self.drawn_text(source)))[0]
            self.assertTrue(is_allowed(answer), hex(answer))

    def test_short_digits_with_exponents_at_the_edges(self):
        for digits in ("0", "1", "4", "5", "6", "15", "25", "49", "50", "51", "9999999999999999", "10000000000000000",
                       "99999999999999994", "99999999999999995", "00012345678901234565"):
            for written in list(range(-420, -375)) + list(range(350, 390)):
                text = f"{digits}E{written}"
                self.check_one(text, second_opinion_on_read(text))
                self.check_one("-." + text, second_opinion_on_read("-." + text))


if __name__ == "__main__":
    unittest.main()
