"""The data of a person: the purchases of one taste and the links between them."""

from buybook.rows import dot


class Data:
    """The number of goods, the purchases (prices, amounts), and the links (i, j, strict)."""

    def __init__(self, goods, buys, links):
        self.goods = goods
        self.buys = [(list(prices), list(amounts)) for prices, amounts in buys]
        self.links = list(links)


def cost(prices, amounts):
    """Return what the amounts cost."""
    return dot(prices, amounts)


def spent(data, i):
    """Return what was spent on purchase i."""
    prices, amounts = data.buys[i]
    return cost(prices, amounts)
