"""Numbers read from the bytes of a text."""

from sixteendigits.bits import infinity, nan
from sixteendigits.rounding import rounded

LONGEST_TEXT = 400
MOST_EXPONENT_DIGITS = 6
LETTERS = "+-.0123456789Eeinf"


def number_read(the_bytes):
    if len(the_bytes) > LONGEST_TEXT:
        return nan()
    text = letters_of(the_bytes)
    minus = 1 if text.startswith("-") else 0
    unsigned = without_sign(text)
    if unsigned == "inf":
        return infinity(minus)
    return finite_read(minus, unsigned)


# Any other byte becomes a mark that fits nowhere in a number.
def letters_of(the_bytes):
    letters = dict([(ord(letter), letter) for letter in LETTERS])
    return "".join([letters.get(byte, "?") for byte in the_bytes])


def without_sign(text):
    return text[1:] if text.startswith("+") or text.startswith("-") else text


def finite_read(minus, unsigned):
    parts = unsigned.replace("e", "E").partition("E")
    around_point = parts[0].partition(".")
    digits = around_point[0] + around_point[2]
    has_exponent = parts[1] == "E"
    if not digits.isdigit() or (has_exponent and not is_exponent(parts[2])):
        return nan()
    written = int(parts[2]) if has_exponent else 0
    wanted = written - len(around_point[2])
    return rounded(minus, int(digits), wanted, wanted)


def is_exponent(text):
    digits = without_sign(text)
    return digits.isdigit() and len(digits) <= MOST_EXPONENT_DIGITS
