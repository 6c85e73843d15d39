"""Rings: data either have one, or come from a taste."""

from buybook.data import cost, spent
from buybook.ratio import div, less, sub
from buybook.steps import find_chain, leads
from buybook.tastes import plane

ONE = (1, 1)


def check(data):
    """Return ("taste", taste) with a taste that is accepted, or ("ring", chain)."""
    ring = find_ring(data)
    if ring is not None:
        return ("ring", ring)
    return ("taste", _find_taste(data))


def find_ring(data):
    """Return a ring of the data; None if they have none."""
    table = leads(data)
    for i in range(len(table)):
        if table[i][i]:
            return find_chain(data, i, i)
    return None


def _find_taste(data):
    """Return a taste that is accepted for data without a ring."""
    count = len(data.buys)
    numbers = [ONE] * count
    weights = [ONE] * count
    done = []
    for group in _classes(leads(data)):
        number = _number(data, (numbers, weights), done, group)
        for i in group:
            numbers[i] = number
        for i in group:
            weights[i] = _weight(data, numbers, done, i)
        done.extend(group)
    return (numbers, weights)


def _classes(table):
    """Return the classes of purchases that lead to each other; none is led to by a later one."""
    count = len(table)
    # What leads to a purchase also leads to all that it leads to, so classes with fewer leaders come first.
    order = sorted((len([k for k in range(count) if table[k][j] is not None]), j) for j in range(count))
    classes = []
    seen = set()
    for _, j in order:
        if j not in seen:
            group = [k for k in range(count) if table[k][j] is not None and table[j][k] is not None]
            classes.append(group)
            for i in group:
                seen.add(i)
    return classes


def _number(data, taste, done, group):
    """Return one less than the numbers so far and than what the planes so far say of a class."""
    least = ONE
    for k in done:
        said = [plane(data, taste, k, data.buys[i][1]) for i in group]
        for number in [taste[0][k], *said]:
            if less(number, least):
                least = number
    return sub(least, ONE)


def _weight(data, numbers, done, i):
    """Return a weight by which the plane of i says of each purchase that is done at least its number."""
    weight = ONE
    for k in done:
        # Above 0, as i does not lead to k.
        more = sub(cost(data.buys[i][0], data.buys[k][1]), spent(data, i))
        needed = div(sub(numbers[k], numbers[i]), more)
        if less(weight, needed):
            weight = needed
    return weight
