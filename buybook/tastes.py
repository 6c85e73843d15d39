"""Tastes: what a basket is worth, told by a number and a weight for each purchase."""

from buybook.data import cost, spent
from buybook.ratio import add, at_most, less, mul, sub

ZERO = (0, 1)


def plane(data, taste, i, basket):
    """Return what the plane of purchase i says of a basket."""
    numbers, weights = taste
    more = sub(cost(data.buys[i][0], basket), spent(data, i))
    return add(numbers[i], mul(weights[i], more))


def worth(data, taste, basket):
    """Return what a basket is worth; the data have a purchase."""
    least = plane(data, taste, 0, basket)
    for i in range(1, len(data.buys)):
        said = plane(data, taste, i, basket)
        if less(said, least):
            least = said
    return least


def judge_taste(data, taste):
    """Return whether a taste is accepted."""
    numbers, weights = taste
    count = len(data.buys)
    if len(numbers) != count or len(weights) != count:
        return False
    if any(at_most(weight, ZERO) for weight in weights):
        return False
    for i in range(count):
        for j in range(count):
            if less(plane(data, taste, i, data.buys[j][1]), numbers[j]):
                return False
    return keeps_links(data.links, numbers)


def keeps_links(links, numbers):
    """Return whether the numbers of the purchases are as the links say."""
    for i, j, strict in links:
        if less(numbers[i], numbers[j]) or (strict and numbers[i] == numbers[j]):
            return False
    return True
