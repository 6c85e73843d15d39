"""Which baskets can be bought at new prices: worth most of all that the money buys, in some taste that fits."""

from buybook.data import Data, cost
from buybook.errors import NotAllowed
from buybook.reach import find_lost_row, reach_chain
from buybook.rings import check, find_ring


def buys(data, prices, money, basket):
    """Return ("taste", taste), ("row", j, chain) or ("ring", chain); raise NotAllowed first of all."""
    if cost(prices, basket) != money:
        raise NotAllowed("the basket must cost just the money")
    ring = find_ring(data)
    if ring is not None:
        return ("ring", ring)
    j = find_lost_row(data, prices, money, basket)
    if j is not None:
        return ("row", j, reach_chain(data, prices, money, j))
    return check(Data(data.goods, [*data.buys, (prices, basket)], data.links))
