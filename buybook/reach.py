"""What new prices and money reach: purchases that what is best for the money is worth as much as."""

from buybook.data import cost, spent
from buybook.ratio import at_most, less
from buybook.steps import find_chain, leads


def reached(data, prices, money):
    """Return for each purchase None if it is not reached, otherwise whether it is strictly."""
    count = len(data.buys)
    table = leads(data)
    told = [None] * count
    for i in _first(data, prices, money):
        cheaper = _is_cheaper(data, prices, money, i)
        for j in range(count):
            if table[i][j] is not None:
                told[j] = told[j] is True or table[i][j] or cheaper
    return told


def reach_chain(data, prices, money, j):
    """Return a reach chain of purchase j, strict if there is a strict one; None if there is none."""
    table = leads(data)
    found = None
    for i in _first(data, prices, money):
        if table[i][j] is not None:
            if table[i][j] or _is_cheaper(data, prices, money, i):
                return find_chain(data, i, j)
            found = i
    return None if found is None else find_chain(data, found, j)


def keeps(data, prices, money, basket):
    """Return whether a basket keeps the rows."""
    return find_lost_row(data, prices, money, basket) is None


def find_lost_row(data, prices, money, basket):
    """Return a purchase whose row the basket does not keep; None if it keeps them all."""
    for j, strict in enumerate(reached(data, prices, money)):
        if strict is not None:
            price = cost(data.buys[j][0], basket)
            if less(price, spent(data, j)) or (strict and price == spent(data, j)):
                return j
    return None


def _first(data, prices, money):
    """Return the purchases whose amounts cost at most the money."""
    return [i for i in range(len(data.buys)) if at_most(cost(prices, data.buys[i][1]), money)]


def _is_cheaper(data, prices, money, i):
    """Return whether the amounts of purchase i cost less than the money."""
    return less(cost(prices, data.buys[i][1]), money)
