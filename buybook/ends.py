"""The least and the greatest that baskets come to which can be bought, and the papers that prove it."""

from buybook.bounds import find_bound, find_room, has_strict_price, proves
from buybook.ratio import mul, neg, sub
from buybook.reach import reached
from buybook.rings import find_ring
from buybook.rows import add_scaled, scale

LESS = (-1, 1)


def judge_paper(data, prices, money, weights, value, paper):
    """Return whether a paper is accepted."""
    if len(prices) != data.goods or len(weights) != data.goods:
        return False
    money_price, row_prices = paper
    # What the money price says holds of all baskets that cost the money; the row prices must show the rest.
    rest = add_scaled(weights, neg(money_price), prices)
    return proves(data, reached(data, prices, money), row_prices, rest, sub(value, mul(money_price, money)))


def judge_strict_paper(data, prices, money, weights, value, paper):
    """Return whether a paper is accepted strictly."""
    if not judge_paper(data, prices, money, weights, value, paper):
        return False
    return has_strict_price(reached(data, prices, money), paper[1])


def least(data, prices, money, weights):
    """Return ("met", value, basket, paper), ("near", value, inner, limit, paper) or ("ring", chain)."""
    ring = find_ring(data)
    if ring is not None:
        return ("ring", ring)
    rows = reached(data, prices, money)
    fixed = [(prices, "equal", money)]
    met, value, basket, fixed_prices, row_prices = find_bound(data, fixed, rows, weights)
    paper = (fixed_prices[0], row_prices)
    if met:
        return ("met", value, basket, paper)
    inner = find_room(data, fixed, rows)[1]
    return ("near", value, inner, basket, paper)


def greatest(data, prices, money, weights):
    """Return the same as least does, for the greatest; the paper is one for the negatives."""
    told = least(data, prices, money, scale(LESS, weights))
    if told[0] == "ring":
        return told
    return (told[0], neg(told[1]), *told[2:])
