"""The least that baskets come to which keep rows, some of them strictly, and the prices that prove it.

A row of a purchase says that a basket costs there at least what was spent; more, if the row is strict.
Which rows are to be kept is told by a list: for each purchase None, or whether its row is strict.
"""

from buybook.data import spent
from buybook.programs import solve
from buybook.ratio import add, at_most, div, less, mul, neg
from buybook.rows import add_scaled

ZERO = (0, 1)
ONE = (1, 1)
LESS = (-1, 1)


def proves(data, rows, prices, weights, value):
    """Return whether row prices show that all baskets that keep the rows come to at least the value."""
    if len(prices) != len(data.buys) or len(weights) != data.goods:
        return False
    said = [ZERO] * data.goods
    total = ZERO
    for j, price in enumerate(prices):
        if less(price, ZERO) or (rows[j] is None and price != ZERO):
            return False
        said = add_scaled(said, price, data.buys[j][0])
        total = add(total, mul(price, spent(data, j)))
    return at_most(value, total) and all(at_most(x, weight) for x, weight in zip(said, weights))


def has_strict_price(rows, prices):
    """Return whether some strict row has a price above 0."""
    return any(strict and less(ZERO, price) for strict, price in zip(rows, prices))


def find_bound(data, fixed, rows, weights):
    """Return (met, value, basket, fixed_prices, row_prices): the least of baskets that keep lines and rows.

    If it is met, the basket keeps the strict rows as such, otherwise only as if they were not strict.
    The prices show that no basket comes to less; if the least is not met, that each comes to more.
    """
    many = len(fixed)
    lines = [(data.buys[j][0], "least", spent(data, j)) for j in _kept(rows)]
    _, value, basket, prices = solve(weights, [*fixed, *lines])
    # No basket comes to less, so "most" leaves those that come to the value, and makes the sign of its price sure.
    room, roomy, strict_prices = find_room(data, [*fixed, (weights, "most", value)], rows)
    if room != ZERO:
        return (True, value, roomy, prices[:many], _spread(rows, prices[many:]))
    # Where there is no room, the prices of strict rows add up to at least 1, and weigh against that of the value.
    by = neg(strict_prices[many])
    prices = [div(price, by) for price in strict_prices]
    return (False, value, basket, prices[:many], _spread(rows, prices[many + 1:]))


def find_room(data, fixed, rows):
    """Return (room, basket, prices): by how much, 1 at most, all strict rows can be kept with room to spare."""
    lines = [([*entries, ZERO], kind, right) for entries, kind, right in fixed]
    for j in _kept(rows):
        lines.append(([*data.buys[j][0], LESS if rows[j] else ZERO], "least", spent(data, j)))
    none = [ZERO] * data.goods
    # Without a limit, the room would have no end where no row is strict.
    lines.append(([*none, ONE], "most", ONE))
    _, _, values, prices = solve([*none, LESS], lines)
    return (values[-1], values[:-1], prices)


def _kept(rows):
    """Return the purchases whose rows are to be kept."""
    return [j for j, strict in enumerate(rows) if strict is not None]


def _spread(rows, prices):
    """Return a price for each purchase: those of the rows that are to be kept, otherwise 0."""
    spread = [ZERO] * len(rows)
    for j, price in zip(_kept(rows), prices):
        spread[j] = price
    return spread
