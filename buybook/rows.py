"""Rows: lists of fractions, taken number by number."""

from buybook.ratio import add, mul


def dot(a, b):
    """Return the sum of the products of two lists of the same length."""
    total = (0, 1)
    for x, y in zip(a, b):
        total = add(total, mul(x, y))
    return total


def scale(k, a):
    """Return the list with each number times k."""
    return [mul(k, x) for x in a]


def add_scaled(a, k, b):
    """Return a plus k times b, number by number."""
    return [add(x, mul(k, y)) for x, y in zip(a, b)]
