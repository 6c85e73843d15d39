import inspect
import itertools
import math
import operator
import unittest
from fractions import Fraction

from buybook import ratio as module
from buybook.errors import BadText
from buybook.ratio import (add, at_most, div, format_ratio, less, mul, neg, parse_ratio, ratio, sub)

BIG = 123456789012345678901234567890123456789012345678901234567890123
LONG = 10 ** 9999 + 7

PARTS = [0, 1, -1, 2, -2, 3, 6, -12, 35, 10 ** 30 + 1, -(10 ** 30), 7 ** 40, BIG, -BIG]
NUMBERS = sorted({Fraction(p, q) for p in PARTS for q in PARTS if q != 0})


def pair(number):
    return (number.numerator, number.denominator)


class FractionCase(unittest.TestCase):
    def assert_fraction(self, found, expected):
        """The tuple is the Fraction, in the one form that a number has."""
        self.assertIs(type(found), tuple)
        self.assertEqual(len(found), 2)
        self.assertIs(type(found[0]), int)
        self.assertIs(type(found[1]), int)
        self.assertGreaterEqual(found[1], 1)
        self.assertEqual(math.gcd(found[0], found[1]), 1)
        self.assertEqual(found, pair(expected))


class Interface(unittest.TestCase):
    def test_names_and_arguments(self):
        expected = {
            "ratio": "p q", "add": "a b", "sub": "a b", "mul": "a b", "div": "a b", "neg": "a",
            "less": "a b", "at_most": "a b", "format_ratio": "a", "parse_ratio": "text",
        }
        for name, words in expected.items():
            function = getattr(module, name)
            self.assertEqual(function.__module__, "buybook.ratio")
            self.assertEqual(list(inspect.signature(function).parameters), words.split())

    def test_example_of_the_document(self):
        self.assertEqual(ratio(4, -6), (-2, 3))
        self.assertEqual(format_ratio(add((1, 2), (1, 3))), "5/6")


class Ratio(FractionCase):
    def test_signs(self):
        self.assertEqual(ratio(2, 3), (2, 3))
        self.assertEqual(ratio(-2, 3), (-2, 3))
        self.assertEqual(ratio(2, -3), (-2, 3))
        self.assertEqual(ratio(-2, -3), (2, 3))

    def test_zero(self):
        for q in [1, -1, 5, -5, BIG, -BIG, LONG]:
            self.assertEqual(ratio(0, q), (0, 1))

    def test_multiples(self):
        self.assertEqual(ratio(6, 3), (2, 1))
        self.assertEqual(ratio(6, -3), (-2, 1))
        self.assertEqual(ratio(-6, -6), (1, 1))
        self.assertEqual(ratio(5, 1), (5, 1))
        self.assertEqual(ratio(5, -1), (-5, 1))
        self.assertEqual(ratio(3 * BIG, BIG), (3, 1))

    def test_common_divisors(self):
        self.assertEqual(ratio(4, 6), (2, 3))
        self.assertEqual(ratio(-84, 36), (-7, 3))
        self.assertEqual(ratio(3, 6), (1, 2))
        self.assertEqual(ratio(2 * BIG, -3 * BIG), (-2, 3))

    def test_all_small(self):
        for p in range(-20, 21):
            for q in range(-20, 21):
                if q != 0:
                    self.assert_fraction(ratio(p, q), Fraction(p, q))

    def test_many_digits(self):
        for p in [BIG, -BIG, BIG * 6, BIG + 1, 10 ** 60, 2 ** 300, 3 ** 200]:
            for q in [BIG, -BIG * 4, 10 ** 61, 2 ** 299, -(3 ** 190) * 5]:
                self.assert_fraction(ratio(p, q), Fraction(p, q))

    def test_most_digits(self):
        for p, q in [(LONG, 10 ** 9999), (6 * LONG, -4 * LONG), (-LONG, 3), (1, -LONG)]:
            self.assert_fraction(ratio(p, q), Fraction(p, q))


class Arithmetic(FractionCase):
    def assert_like(self, function, expected):
        for a in NUMBERS:
            for b in NUMBERS:
                self.assert_fraction(function(pair(a), pair(b)), expected(a, b))

    def test_add(self):
        self.assertEqual(add((1, 2), (1, 2)), (1, 1))
        self.assertEqual(add((1, 6), (-2, 3)), (-1, 2))
        self.assert_like(add, operator.add)

    def test_sub(self):
        self.assertEqual(sub((1, 2), (1, 3)), (1, 6))
        self.assertEqual(sub((1, 3), (1, 2)), (-1, 6))
        self.assert_like(sub, operator.sub)

    def test_mul(self):
        self.assertEqual(mul((2, 3), (3, 4)), (1, 2))
        self.assertEqual(mul((-2, 3), (-3, 2)), (1, 1))
        self.assert_like(mul, operator.mul)

    def test_div(self):
        self.assertEqual(div((1, 2), (3, 4)), (2, 3))
        self.assertEqual(div((1, 2), (-3, 4)), (-2, 3))
        for a in NUMBERS:
            for b in NUMBERS:
                if b != 0:
                    self.assert_fraction(div(pair(a), pair(b)), a / b)

    def test_neg(self):
        self.assertEqual(neg((0, 1)), (0, 1))
        self.assertEqual(neg((2, 3)), (-2, 3))
        for a in NUMBERS:
            self.assert_fraction(neg(pair(a)), -a)
            self.assertEqual(neg(neg(pair(a))), pair(a))

    def test_with_zero(self):
        zero = (0, 1)
        for number in NUMBERS:
            a = pair(number)
            self.assertEqual(add(a, zero), a)
            self.assertEqual(add(zero, a), a)
            self.assertEqual(sub(a, zero), a)
            self.assertEqual(sub(zero, a), neg(a))
            self.assertEqual(mul(a, zero), zero)
            self.assertEqual(mul(zero, a), zero)
            if a != zero:
                self.assertEqual(div(zero, a), zero)

    def test_with_itself_and_its_negative(self):
        for number in NUMBERS:
            a = pair(number)
            self.assertEqual(sub(a, a), (0, 1))
            self.assertEqual(add(a, neg(a)), (0, 1))
            self.assertEqual(add(a, a), mul((2, 1), a))
            self.assertEqual(sub(a, neg(a)), mul((2, 1), a))
            if a != (0, 1):
                self.assertEqual(div(a, a), (1, 1))
                self.assertEqual(div(a, neg(a)), (-1, 1))
                self.assertEqual(mul(a, div((1, 1), a)), (1, 1))

    def test_nothing_is_rounded(self):
        a = (BIG ** 3, BIG ** 3 + 1)
        tiny = (1, 10 ** 500)
        self.assertEqual(sub(add(a, tiny), a), tiny)
        self.assertEqual(div(mul(a, tiny), tiny), a)

    def test_most_digits(self):
        a, b = Fraction(LONG, 10 ** 9999), Fraction(-(10 ** 9998) - 1, LONG)
        self.assert_fraction(add(pair(a), pair(b)), a + b)
        self.assert_fraction(sub(pair(a), pair(b)), a - b)
        self.assert_fraction(mul(pair(a), pair(b)), a * b)
        self.assert_fraction(div(pair(a), pair(b)), a / b)


class Order(unittest.TestCase):
    def test_all_pairs(self):
        for a in NUMBERS:
            for b in NUMBERS:
                self.assertIs(less(pair(a), pair(b)), a < b)
                self.assertIs(at_most(pair(a), pair(b)), a <= b)

    def test_equal_numbers(self):
        for a in [(0, 1), (1, 2), (-1, 2), (5, 1), (-BIG, 2)]:
            self.assertIs(less(a, a), False)
            self.assertIs(at_most(a, a), True)

    def test_signs(self):
        rising = [(-3, 1), (-5, 2), (-1, 3), (0, 1), (1, 3), (5, 2), (3, 1)]
        for i, a in enumerate(rising):
            for j, b in enumerate(rising):
                self.assertIs(less(a, b), i < j)
                self.assertIs(at_most(a, b), i <= j)

    def test_far_behind_the_point(self):
        for digits in [20, 100, 1000]:
            ten = 10 ** digits
            below, above = (ten // 3, ten), (ten // 3 + 1, ten)
            for low, high in [(below, (1, 3)), ((1, 3), above), ((-1, 3), neg(below)), (neg(above), (-1, 3)),
                              ((ten - 1, ten), (1, 1)), ((ten, 1), (ten * ten + 1, ten))]:
                low, high = ratio(*low), ratio(*high)
                self.assertIs(less(low, high), True)
                self.assertIs(at_most(low, high), True)
                self.assertIs(less(high, low), False)
                self.assertIs(at_most(high, low), False)



BAD = """
2/4|3/1|-0|+1||0/5|5/0|1/-2|--1|01|1/02|-|/|1/|/2|1/2/3| 1|1 |1.5|a|abc|x/y|1/x|x/1
-2/4|-3/1|0/1|-0/1|0/0|-0/5|-5/0|1/1|-1/1|4/2|6/3|00|-00|-01|-1/02|01/2|1/00|1/+2|+1/2|-+1|+-1|1-|-1-|1--
-/2|1/-|//|1//2|-1/-2|1/2/|/1/2|1 /2|1/ 2|- 1| | 1/2|1/2 |1_0|1/1_1|1e3|0x1|0b1|1.|.5|1,5|(1, 2)|None|inf|nan|1:2
"""
BAD_TEXTS = BAD[1:-1].replace("\n", "|").split("|") + [
    "1\n", "\n1", "\t1", "1\t/2", "1\x00", "\u00b2", "\u0661", "\uff11", "1/\u0662", "\u00bd", "\u22121", "1\u20442",
    "\u00a01",
]


class Text(FractionCase):
    def assert_bad(self, text):
        for _ in range(2):
            with self.assertRaises(BadText) as caught:
                parse_ratio(text)
            self.assertEqual(caught.exception.at, 0)

    def test_written_forms(self):
        expected = {
            "0": (0, 1), "1": (1, 1), "-1": (-1, 1), "10": (10, 1), "-205": (-205, 1), "1/2": (1, 2),
            "-1/2": (-1, 2), "10/3": (10, 3), "-7/100": (-7, 100), "99/10": (99, 10),
        }
        for text, number in expected.items():
            self.assertEqual(format_ratio(number), text)
            for _ in range(2):
                self.assert_fraction(parse_ratio(text), Fraction(*number))

    def test_small_ones_come_back(self):
        for p in range(-30, 31):
            for q in range(1, 31):
                number = ratio(p, q)
                self.assertEqual(format_ratio(number), str(Fraction(p, q)))
                self.assertEqual(parse_ratio(format_ratio(number)), number)

    def test_exactly_the_written_forms_are_accepted(self):
        for length in range(6):
            for characters in itertools.product("0124-/ ", repeat=length):
                text = "".join(characters)
                number = self.number_of(text)
                if number is None:
                    with self.assertRaises(BadText):
                        parse_ratio(text)
                else:
                    self.assertEqual(parse_ratio(text), number)

    def number_of(self, text):
        """Tell the fraction of a text as Fraction does, or None unless it writes the text so."""
        try:
            number = Fraction(text)
        except (ValueError, ZeroDivisionError):
            return None
        return pair(number) if str(number) == text else None

    def test_bad_texts(self):
        for text in BAD_TEXTS:
            with self.subTest(text=text):
                self.assert_bad(text)

    def test_many_digits_are_written(self):
        for digits in [60, 61, 100, 999, 1000]:
            number = "7" * digits
            p = sum(7 * 10 ** k for k in range(digits))
            self.assertEqual(format_ratio((p, 1)), number)
            self.assertEqual(format_ratio((-p, 1)), "-" + number)
            self.assertEqual(format_ratio((p, 10 ** (digits - 1))), number + "/1" + "0" * (digits - 1))
            self.assertEqual(format_ratio((-1, p)), "-1/" + number)

    def test_sixty_digits_are_accepted(self):
        most, least = 10 ** 60 - 1, 10 ** 59
        for number in [(most, 1), (-most, 1), (least, 1), (-least, 1), (1, most), (-1, least), (most, least),
                       (-most, most - 1), (least, most)]:
            text = format_ratio(number)
            self.assertEqual(parse_ratio(text), number)
            self.assertEqual(parse_ratio(text), number)

    def test_more_than_sixty_digits_are_refused(self):
        for number in [(10 ** 60, 1), (-(10 ** 60), 1), (1, 10 ** 60), (-1, 10 ** 60), (10 ** 60, 10 ** 60 + 1),
                       (10 ** 999, 1), (10 ** 999 + 1, 10 ** 999), (7, 10 ** 100), (10 ** 60 + 1, 2)]:
            self.assert_bad(format_ratio(number))

    def test_long_texts_are_refused(self):
        for text in ["1" * 5000, "-" + "1" * 5000, "1/" + "3" * 10000, "0" * 61, "1/" + "0" * 61, "/" * 5000,
                     "-" * 5000, "1" * 61 + "/", "/" + "1" * 61, "1" * 61 + "x"]:
            self.assert_bad(text)


if __name__ == "__main__":
    unittest.main()
