"""The money that makes up for a purchase at new prices: the greatest and the least need, and need papers."""

from buybook.bounds import find_bound, has_strict_price, proves
from buybook.data import cost
from buybook.ratio import less
from buybook.rings import find_ring
from buybook.steps import find_chain, leads


def greatest_need(data, i, prices):
    """Return ("told", money, met, chain) or ("ring", chain)."""
    ring = find_ring(data)
    if ring is not None:
        return ("ring", ring)
    table = leads(data)
    start = i
    money = cost(prices, data.buys[i][1])
    for j in range(len(table)):
        if table[j][i] is not None:
            price = cost(prices, data.buys[j][1])
            # Of several that cost just the money, one that leads to i strictly tells that it is not met.
            if less(price, money) or (price == money and table[j][i]):
                start = j
                money = price
    return ("told", money, not table[start][i], find_chain(data, start, i))


def judge_need(data, i, prices, money, paper):
    """Return whether a need paper is accepted."""
    return proves(data, leads(data)[i], paper, prices, money)


def judge_strict_need(data, i, prices, money, paper):
    """Return whether a need paper is accepted strictly."""
    return judge_need(data, i, prices, money, paper) and has_strict_price(leads(data)[i], paper)


def least_need(data, i, prices):
    """Return ("met", money, basket, paper), ("near", money, limit, paper) or ("ring", chain)."""
    ring = find_ring(data)
    if ring is not None:
        return ("ring", ring)
    met, money, basket, _, paper = find_bound(data, [], leads(data)[i], prices)
    return ("met" if met else "near", money, basket, paper)
