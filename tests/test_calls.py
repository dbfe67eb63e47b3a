"""All ten calls: their names and arguments, and that none of them leaves a trace for the next."""

import contextlib
import copy
import inspect
import io
import itertools
import random
import unittest

from sixteendigits import decimals
from tests.helper import INFINITY, LARGEST, MINUS, MINUS_INFINITY, NAN, bytes_of, number, second_form, zero

ARGUMENTS = {"op": ["op", "a", "b"], "root": ["a"], "order": ["a", "b"], "placed": ["a", "e"], "whole": ["a"],
             "from_whole": ["n"], "double": ["a"], "total": ["numbers"], "write": ["a"], "read": ["the_bytes"]}

ANSWERS = (
    ("op", (0, number(1), number(2)), [number(3)]),
    ("op", (1, number(1), number(1)), [zero(0)]),
    ("op", (2, number(-3), number(5, -1)), [number(-15, -1)]),
    ("op", (3, number(1), number(3)), [number(3333333333333333, -16)]),
    ("op", (3, number(1), zero(0, True)), [MINUS_INFINITY]),
    ("op", (4, number(1), number(1)), [NAN]),
    ("root", (number(2),), [number(1414213562373095, -15)]),
    ("root", (number(-1),), [NAN]),
    ("order", (number(1), number(10, -1)), [0]),
    ("order", (INFINITY, NAN), [2]),
    ("order", (MINUS_INFINITY, number(-LARGEST, 369)), [-1]),
    ("placed", (number(25, -1), 0), [number(2)]),
    ("placed", (number(1), 370), [NAN]),
    ("whole", (number(-29, -1),), [-2]),
    ("whole", (INFINITY,), [-9223372036854775808]),
    ("from_whole", (12345678901234565,), [number(1234567890123456, 1)]),
    ("from_whole", (0,), [zero(0)]),
    ("double", (number(1, -1),), [0x3FB999999999999A]),
    ("double", (NAN,), [9221120237041090560]),
    ("double", (zero(9, True),), [MINUS]),
    ("total", ([],), [zero(0)]),
    ("total", ([number(1), number(1, -1), number(1, -2)],), [number(111, -2)]),
    ("total", ([number(1)] * 1001,), [NAN]),
    ("total", ([second_form(10 ** 16, 3) + MINUS],), [zero(3, True)]),
    ("write", (number(-250, -2),), [7] + bytes_of("-250E-2")),
    ("write", (INFINITY,), [3] + bytes_of("inf")),
    ("write", (NAN,), [3] + bytes_of("nan")),
    ("read", (bytes_of("-2.50"),), [number(-250, -2)]),
    ("read", (bytes_of("1E400"),), [INFINITY]),
    ("read", (bytes_of("1E-400"),), [zero(-398)]),
    ("read", (bytes_of("none"),), [NAN]),
)


class Interface(unittest.TestCase):
    def test_names_and_arguments(self):
        for name, arguments in ARGUMENTS.items():
            parameters = inspect.signature(getattr(decimals, name)).parameters
            self.assertEqual(list(parameters), arguments, name)
            for parameter in parameters.values():
                self.assertIs(parameter.default, inspect.Parameter.empty, name)

    def test_each_is_called_below(self):
        self.assertEqual({name for name, given, wanted in ANSWERS}, set(ARGUMENTS))

    def test_arguments_by_name(self):
        for name, given, wanted in ANSWERS:
            self.assertEqual(getattr(decimals, name)(**dict(zip(ARGUMENTS[name], copy.deepcopy(given)))), wanted, name)


class OneAfterAnother(unittest.TestCase):
    def check(self, name, given, wanted):
        handed_in = copy.deepcopy(given)
        answer = getattr(decimals, name)(*handed_in)
        self.assertIs(type(answer), list)
        self.assertEqual([type(value) for value in answer], [int] * len(wanted), name)
        self.assertEqual(answer, wanted, (name, given))
        self.assertEqual(handed_in, given, name)
        # A caller may do with an answer what it likes: the next answer is not to notice.
        answer.clear()

    def test_in_this_order_and_backward(self):
        for case in ANSWERS + ANSWERS[::-1]:
            self.check(*case)

    def test_each_after_each(self):
        for first, second in itertools.product(ANSWERS, repeat=2):
            self.check(*first)
            self.check(*second)

    def test_in_drawn_orders(self):
        source = random.Random(0)
        for turn in range(50):
            for case in source.sample(ANSWERS, len(ANSWERS)):
                self.check(*case)

    def test_nothing_is_printed(self):
        with contextlib.redirect_stdout(io.StringIO()) as out, contextlib.redirect_stderr(io.StringIO()) as err:
            for name, given, wanted in ANSWERS:
                getattr(decimals, name)(*copy.deepcopy(given))
        self.assertEqual((out.getvalue(), err.getvalue()), ("", ""))


if __name__ == "__main__":
    unittest.main()
