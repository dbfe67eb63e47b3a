"""The calls: each takes numbers by their 64 bits and gives back a list of whole numbers."""

from sixteendigits.arithmetic import added, added_up, divided, multiplied, square_root, with_sign_turned
from sixteendigits.bits import bits_of, nan, number_of
from sixteendigits.comparing import compared
from sixteendigits.doubles import double_of
from sixteendigits.placing import with_exponent
from sixteendigits.reading import number_read
from sixteendigits.wholes import number_of_whole, whole_part
from sixteendigits.writing import text_of


def op(op, a, b):
    return [bits_of(computed(op, number_of(a), number_of(b)))]


def root(a):
    return [bits_of(square_root(number_of(a)))]


def order(a, b):
    return [compared(number_of(a), number_of(b))]


def placed(a, e):
    return [bits_of(with_exponent(number_of(a), e))]


def whole(a):
    return [whole_part(number_of(a))]


def from_whole(n):
    return [bits_of(number_of_whole(n))]


def double(a):
    return [double_of(number_of(a))]


def total(numbers):
    return [bits_of(added_up([number_of(bits) for bits in numbers]))]


def write(a):
    written = [ord(letter) for letter in text_of(number_of(a))]
    return [len(written)] + written


def read(the_bytes):
    return [bits_of(number_read(the_bytes))]


def computed(which, a, b):
    if which == 0:
        return added(a, b)
    if which == 1:
        return added(a, with_sign_turned(b))
    if which == 2:
        return multiplied(a, b)
    if which == 3:
        return divided(a, b)
    return nan()
