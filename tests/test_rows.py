import inspect
import math
import unittest
from fractions import Fraction

from buybook import rows as module
from buybook.rows import add_scaled, dot, scale

BIG = 10 ** 40 + 9

ROWS = [
    [],
    [(0, 1)],
    [(5, 1)],
    [(-3, 4)],
    [(1, 2), (-1, 3)],
    [(0, 1), (0, 1), (0, 1)],
    [(1, 6), (-2, 3), (0, 1), (7, 1)],
    [(-1, 2), (3, 2), (-5, 6), (-7, 1)],
    [(BIG, 7), (-1, BIG), (3, BIG - 1), (-BIG, 2), (1, 1)],
    [(7, BIG), (BIG, 1), (1 - BIG, 3), (2, BIG), (-5, 1)],
]
FACTORS = [(0, 1), (1, 1), (-1, 1), (2, 1), (-2, 3), (6, 1), (BIG, 3), (-1, BIG)]
PAIRS = [(a, b) for a in ROWS for b in ROWS if len(a) == len(b)]


def numbers(row):
    return [Fraction(p, q) for p, q in row]


def pair(number):
    return (number.numerator, number.denominator)


class Rows(unittest.TestCase):
    def assert_fraction(self, found, expected):
        self.assertIs(type(found), tuple)
        self.assertEqual(math.gcd(found[0], found[1]), 1)
        self.assertGreaterEqual(found[1], 1)
        self.assertEqual(found, pair(expected))

    def assert_row(self, found, expected, passed):
        """The list has the numbers, in lowest terms, and is none of those that were passed."""
        self.assertIs(type(found), list)
        self.assertEqual(len(found), len(expected))
        for one, number in zip(found, expected):
            self.assert_fraction(one, number)
        for other in passed:
            self.assertIsNot(found, other)

    def test_names_and_arguments(self):
        for name, words in {"dot": "a b", "scale": "k a", "add_scaled": "a k b"}.items():
            function = getattr(module, name)
            self.assertEqual(function.__module__, "buybook.rows")
            self.assertEqual(list(inspect.signature(function).parameters), words.split())

    def test_dot(self):
        self.assertEqual(dot([], []), (0, 1))
        self.assertEqual(dot([(2, 3)], [(3, 4)]), (1, 2))
        self.assertEqual(dot([(1, 2), (2, 1)], [(4, 1), (1, 3)]), (8, 3))
        self.assertEqual(dot([(1, 2), (-1, 2)], [(1, 1), (1, 1)]), (0, 1))
        for a, b in PAIRS:
            expected = sum((x * y for x, y in zip(numbers(a), numbers(b))), Fraction(0))
            self.assert_fraction(dot(list(a), list(b)), expected)

    def test_scale(self):
        self.assertEqual(scale((3, 1), []), [])
        self.assertEqual(scale((1, 2), [(4, 1), (1, 3), (-2, 5)]), [(2, 1), (1, 6), (-1, 5)])
        self.assertEqual(scale((0, 1), [(4, 1), (-1, 3)]), [(0, 1), (0, 1)])
        for k in FACTORS:
            for a in ROWS:
                passed = list(a)
                self.assert_row(scale(k, passed), [Fraction(*k) * x for x in numbers(a)], [passed])

    def test_add_scaled(self):
        self.assertEqual(add_scaled([], (3, 1), []), [])
        self.assertEqual(add_scaled([(1, 1)], (2, 1), [(1, 4)]), [(3, 2)])
        self.assertEqual(add_scaled([(1, 1), (0, 1)], (-1, 2), [(2, 1), (-4, 3)]), [(0, 1), (2, 3)])
        for k in FACTORS:
            for a, b in PAIRS:
                first, second = list(a), list(b)
                expected = [x + Fraction(*k) * y for x, y in zip(numbers(a), numbers(b))]
                self.assert_row(add_scaled(first, k, second), expected, [first, second])

    def test_arguments_stay_as_they_were(self):
        for k in FACTORS:
            for a, b in PAIRS:
                first, second = list(a), list(b)
                dot(first, second)
                scale(k, first)
                add_scaled(first, k, second)
                self.assertEqual((first, second), (a, b))

    def test_one_list_passed_twice(self):
        a = [(1, 2), (-3, 1)]
        self.assertEqual(dot(a, a), (37, 4))
        self.assertEqual(add_scaled(a, (-1, 1), a), [(0, 1), (0, 1)])
        self.assertEqual(a, [(1, 2), (-3, 1)])

    def test_a_new_list_each_time(self):
        a = [(1, 2), (-3, 1)]
        first, second = scale((1, 1), a), scale((1, 1), a)
        self.assertIsNot(first, second)
        first.append((9, 1))
        self.assertEqual(second, a)
        first, second = add_scaled(a, (0, 1), a), add_scaled(a, (0, 1), a)
        self.assertIsNot(first, second)
        first.append((9, 1))
        self.assertEqual(second, a)


if __name__ == "__main__":
    unittest.main()
