"""Unseen baskets: which of two a person can like more, in a taste that fits the data.

The points are the purchases and behind them the two baskets. The plane of point i says of point j the
number of i, plus the scales of i, each times one of the gains of j at i. The scales are the weight of a
purchase, or the slopes of a basket. Nothing is said of numbers but which are at least or above which,
so what a goal asks is told as links between the two baskets.
"""

from buybook.data import cost, spent
from buybook.programs import solve
from buybook.ratio import add, at_most, less, neg, sub
from buybook.rings import find_ring
from buybook.rows import add_scaled, dot
from buybook.tastes import keeps_links

ZERO = (0, 1)
ONE = (1, 1)
LESS = (-1, 1)


def judge_liking(data, first, second, goal, liking):
    """Return whether a liking is accepted."""
    numbers, weights, slopes = liking
    points = _points(data, first, second)
    if len(numbers) != len(points) or len(weights) != len(data.buys) or len(slopes) != 2:
        return False
    if any(len(part) != data.goods for part in [first, second, *slopes]):
        return False
    scales = [*[[weight] for weight in weights], *slopes]
    for i, row in enumerate(scales):
        if any(at_most(x, ZERO) for x in row):
            return False
        for j in range(len(points)):
            if less(add(numbers[i], dot(row, _gains(data, points, i, j))), numbers[j]):
                return False
    return keeps_links([*data.links, *_goal_links(data, goal)], numbers)


def judge_refusal(data, first, second, goal, refusal):
    """Return whether a refusal is accepted."""
    pairs, links, goal_prices = refusal
    points = _points(data, first, second)
    wanted = _goal_links(data, goal)
    if len(pairs) != len(points) or len(links) != len(data.links) or len(goal_prices) != len(wanted):
        return False
    if any(len(row) != len(points) for row in pairs) or len(first) != data.goods or len(second) != data.goods:
        return False
    prices = [*links, *goal_prices]
    if any(less(price, ZERO) for row in [*pairs, prices] for price in row):
        return False
    said = [*data.links, *wanted]
    if any(flow != ZERO for flow in _flows(pairs, said, prices)):
        return False
    totals = _totals(data, points, pairs)
    if any(less(ZERO, total) for total in totals):
        return False
    strict_prices = [price for (_, _, strict), price in zip(said, prices) if strict]
    return any(less(total, ZERO) for total in totals) or any(less(ZERO, price) for price in strict_prices)


def _points(data, first, second):
    """Return the amounts of all points."""
    return [*[amounts for _, amounts in data.buys], first, second]


def _goal_links(data, goal):
    """Return links that say what the goal asks, in the order of the prices of the goal."""
    first = len(data.buys)
    second = first + 1
    if goal == "first":
        return [(first, second, True)]
    if goal == "second":
        return [(second, first, True)]
    return [(second, first, False), (first, second, False)]


def _gains(data, points, i, j):
    """Return what point j has above point i: in money at the prices of a purchase, at a basket of each good."""
    if i < len(data.buys):
        return [sub(cost(data.buys[i][0], points[j]), spent(data, i))]
    return [sub(x, y) for x, y in zip(points[j], points[i])]


def _flows(pairs, links, prices):
    """Return for each point what goes out less what comes in."""
    flows = [ZERO] * len(pairs)
    for i, row in enumerate(pairs):
        for j, price in enumerate(row):
            flows[i] = add(flows[i], price)
            flows[j] = sub(flows[j], price)
    for (i, j, _), price in zip(links, prices):
        flows[i] = add(flows[i], price)
        flows[j] = sub(flows[j], price)
    return flows


def _totals(data, points, pairs):
    """Return the gains at each point, each times the price of its pair, added up."""
    totals = []
    for i, row in enumerate(pairs):
        total = [ZERO] * len(_gains(data, points, i, i))
        for j, price in enumerate(row):
            total = add_scaled(total, price, _gains(data, points, i, j))
        totals.extend(total)
    return totals


def likes(data, first, second, goal):
    """Return ("can", liking), ("cannot", refusal) or ("ring", chain)."""
    ring = find_ring(data)
    if ring is not None:
        return ("ring", ring)
    points = _points(data, first, second)
    pairs = [(i, j) for i in range(len(points)) for j in range(len(points)) if i != j]
    columns = len(points) + len(data.buys) + 2 * data.goods
    lines = [_pair_line(data, points, columns, i, j) for i, j in pairs]
    for link in [*data.links, *_goal_links(data, goal)]:
        lines.append(_link_line(columns, link))
    told = solve([ZERO] * columns, lines)
    if told[0] == "nothing":
        return ("cannot", _refusal(data, pairs, told[1]))
    return ("can", _liking(data, told[2]))


def _pair_line(data, points, columns, i, j):
    """Return the line that says that the plane of point i allows point j.

    The scales are one more than their columns. This loses nothing: they may all be told in a smaller unit.
    """
    gains = _gains(data, points, i, j)
    place = len(points) + i
    if i > len(data.buys):
        place = columns - data.goods
    entries = [ZERO] * columns
    entries[i] = ONE
    entries[j] = LESS
    entries[place:place + len(gains)] = gains
    return (entries, "least", neg(dot(gains, [ONE] * len(gains))))


def _link_line(columns, link):
    """Return the line of a link; the numbers can be told in a unit in which what is above is so by 1."""
    i, j, strict = link
    entries = [ZERO] * columns
    entries[i] = ONE
    entries[j] = sub(entries[j], ONE)
    return (entries, "least", ONE if strict else ZERO)


def _liking(data, values):
    """Return the liking that the values of the columns tell."""
    count = len(data.buys)
    numbers = values[:count + 2]
    scales = [add(value, ONE) for value in values[count + 2:]]
    middle = count + data.goods
    return (numbers, scales[:count], [scales[count:middle], scales[middle:]])


def _refusal(data, pairs, prices):
    """Return the refusal that the prices of the lines tell."""
    count = len(data.buys) + 2
    table = [[ZERO] * count for _ in range(count)]
    for (i, j), price in zip(pairs, prices):
        table[i][j] = price
    rest = prices[len(pairs):]
    many = len(data.links)
    return (table, rest[:many], rest[many:])
