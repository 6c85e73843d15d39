"""Fractions: tuples (p, q) of integers in lowest terms, with q at least 1."""

from math import gcd

from buybook.errors import BadText

MOST_DIGITS = 60


def ratio(p, q):
    """Return the fraction p by q; q is not 0."""
    common = gcd(p, q)
    if q < 0:
        # The sign belongs to p, so that equal numbers are equal tuples.
        common = -common
    return (p // common, q // common)


def add(a, b):
    """Return the sum."""
    return ratio(a[0] * b[1] + b[0] * a[1], a[1] * b[1])


def sub(a, b):
    """Return the difference."""
    return ratio(a[0] * b[1] - b[0] * a[1], a[1] * b[1])


def mul(a, b):
    """Return the product."""
    return ratio(a[0] * b[0], a[1] * b[1])


def div(a, b):
    """Return a divided by b; b is not 0."""
    return ratio(a[0] * b[1], a[1] * b[0])


def neg(a):
    """Return the negative."""
    return (-a[0], a[1])


def less(a, b):
    """Return whether a is below b."""
    return a[0] * b[1] < b[0] * a[1]


def at_most(a, b):
    """Return whether a is below b or equal to it."""
    return a[0] * b[1] <= b[0] * a[1]


def format_ratio(a):
    """Return the written form."""
    p, q = a
    if q == 1:
        return str(p)
    return f"{p}/{q}"


def parse_ratio(text):
    """Return the fraction of a written form; raise BadText for any other text."""
    top, slash, bottom = text.partition("/")
    p = _parse_digits(top.removeprefix("-"))
    if top.startswith("-"):
        p = -p
    q = _parse_digits(bottom) if slash else 1
    if q == 0:
        raise BadText(0)
    found = ratio(p, q)
    # One comparison refuses leading zeros, common divisors, "-0" and "/1" alike.
    if format_ratio(found) != text:
        raise BadText(0)
    return found


def _parse_digits(word):
    """Return the number that a word of digits writes; raise BadText for any other word."""
    # The length is tested before int, which has a limit and an error of its own.
    if len(word) > MOST_DIGITS:
        raise BadText(0)
    # Without isascii, isdigit also takes the digits of other scripts.
    if not (word.isascii() and word.isdigit()):
        raise BadText(0)
    return int(word)
