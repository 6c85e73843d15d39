"""Totals: the least of the sum of what the baskets of several come to."""

from buybook.ends import least
from buybook.ratio import add


def total_least(asks, weights):
    """Return ("told", value, met), or ("ring", k) with the first ask whose data have a ring."""
    total = (0, 1)
    all_met = True
    for k, (data, prices, money) in enumerate(asks):
        told = least(data, prices, money, weights)
        if told[0] == "ring":
            return ("ring", k)
        total = add(total, told[1])
        all_met = all_met and told[0] == "met"
    return ("told", total, all_met)
