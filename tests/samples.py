"""What several tests use: fractions, made-up data, and a check of the interface."""

import copy
import inspect
import itertools
from fractions import Fraction

from buybook.data import Data


def pair(number):
    """Return a number as the program writes it."""
    number = Fraction(number)
    return (number.numerator, number.denominator)


def row(*numbers):
    """Return a list of numbers, or of texts such as "1/2", as the program writes it."""
    return [pair(number) for number in numbers]


def numbers(found):
    """Return a list of the program's fractions as Fractions."""
    return [Fraction(p, q) for p, q in found]


def cost_of(prices, amounts):
    """Return as a Fraction what amounts cost."""
    return sum((x * y for x, y in zip(numbers(prices), numbers(amounts))), Fraction(0))


def check_functions(case, module, expected):
    """Each function is defined in the module itself and has these arguments."""
    for name, words in expected.items():
        function = getattr(module, name)
        case.assertEqual(function.__module__, module.__name__)
        case.assertEqual(list(inspect.signature(function).parameters), words.split(), name)


def check_methods(case, module, name, expected):
    """Each method is defined in the class itself, the class in the module, with these arguments."""
    owner = getattr(module, name)
    case.assertEqual(owner.__module__, module.__name__)
    for method, words in expected.items():
        case.assertIn(method, vars(owner))
        case.assertEqual(list(inspect.signature(vars(owner)[method]).parameters), ["self", *words.split()], method)


def inside(data):
    """Return a copy of all that data hold."""
    return copy.deepcopy((data.goods, data.buys, data.links))


def made_data(rng, goods, many, links, most=3):
    """Return made-up data; with small numbers, so that equal costs are frequent."""
    buys = []
    while len(buys) < many:
        prices = row(*[Fraction(rng.randint(1, most), rng.choice([1, 1, 2])) for _ in range(goods)])
        amounts = row(*[Fraction(rng.randint(0, most), rng.choice([1, 1, 3])) for _ in range(goods)])
        if any(p for p, _ in amounts):
            buys.append((prices, amounts))
    said = [(rng.randrange(many), rng.randrange(many), rng.random() < 0.3) for _ in range(links if many else 0)]
    return Data(goods, buys, said)


LARGE = 10 ** 12


def large_data(rng, goods, many):
    """Return made-up data of integers of 12 digits and more, close to multiples of a large one."""
    buys = []
    for prices, amounts in made_data(rng, goods, many, 0).buys:
        buys.append(([(p * LARGE + rng.randint(-9, 9), 1) for p, _ in prices],
                     [(p * LARGE + rng.randint(0, 9) if p else 0, 1) for p, _ in amounts]))
    return Data(goods, buys, [])


def large_prices(rng, goods):
    """Return prices of 13 digits."""
    return row(*[rng.randint(1, 9) * LARGE + 7 for _ in range(goods)])


def step_of(data, i, j):
    """Return the step from i to j by the words of point 12."""
    kinds = [strict for a, b, strict in data.links if (a, b) == (i, j)]
    if i != j:
        rest = cost_of(*data.buys[i]) - cost_of(data.buys[i][0], data.buys[j][1])
        if rest >= 0:
            kinds.append(rest > 0)
    return any(kinds) if kinds else None


def leads_of(data):
    """Return what leads to what, by closing the table of steps."""
    many = range(len(data.buys))
    steps = {(i, j): step_of(data, i, j) for i in many for j in many}
    joined = {(i, j): i == j or steps[i, j] is not None for i in many for j in many}
    for k in many:
        for i in many:
            for j in many:
                joined[i, j] = joined[i, j] or (joined[i, k] and joined[k, j])
    strict = {(i, j): any(steps[a, b] and joined[i, a] and joined[b, j] for a in many for b in many)
              for i in many for j in many}
    return [[strict[i, j] if joined[i, j] else None for j in many] for i in many]


def axes(*prices, links=()):
    """Return data in which purchase k is of one unit of good k; k leads to j if j's price there is at most k's."""
    goods = len(prices[0])
    return Data(goods, [(row(*told), row(*[k == g for g in range(goods)])) for k, told in enumerate(prices)], links)


def reached_of(data, prices, money):
    """Return what new prices and money reach, by the words of point 22."""
    table = leads_of(data)
    found = []
    for j in range(len(data.buys)):
        kinds = []
        for i, (_, amounts) in enumerate(data.buys):
            rest = Fraction(*money) - cost_of(prices, amounts)
            if rest >= 0 and table[i][j] is not None:
                kinds.append(rest > 0 or table[i][j])
        found.append(any(kinds) if kinds else None)
    return found


def rooms_of(data, basket):
    """Return by how much more than what was spent the basket costs at each purchase."""
    return [cost_of(prices, basket) - cost_of(prices, amounts) for prices, amounts in data.buys]


def keeps_of(data, rows, basket, closed=False):
    """Return whether a basket keeps rows by the words of points 24 and 32; closed, as if none were strict."""
    return all(kind is None or room > 0 or (room == 0 and (closed or not kind))
               for kind, room in zip(rows, rooms_of(data, basket)))


def solution_of(table):
    """Return the one solution of as many equations as numbers, (entries, right); None if there is not one."""
    table = [[*entries, right] for entries, right in table]
    for k in range(len(table)):
        pivot = next((i for i in range(k, len(table)) if table[i][k] != 0), None)
        if pivot is None:
            return None
        table[k], table[pivot] = table[pivot], table[k]
        table[k] = [x / table[k][k] for x in table[k]]
        for i in range(len(table)):
            if i != k:
                table[i] = [x - table[i][k] * y for x, y in zip(table[i], table[k])]
    return [told[-1] for told in table]


def least_of(data, rows, weights, fixed):
    """Return (value, met): the least of baskets that keep the rows and cost what is fixed, by all their corners.

    With a strict row the least is met if one of the corners that come to it keeps that row as such: the
    middle of all of them keeps every row that one of them keeps.
    """
    equal = [(numbers(prices), Fraction(*money)) for prices, money in fixed]
    bounds = [([Fraction(k == g) for g in range(data.goods)], Fraction(0)) for k in range(data.goods)]
    for kind, (prices, amounts) in zip(rows, data.buys):
        if kind is not None:
            bounds.append((numbers(prices), cost_of(prices, amounts)))
    corners = []
    for chosen in itertools.combinations(bounds, data.goods - len(equal)):
        corner = solution_of([*equal, *chosen])
        if corner is not None and min(corner) >= 0 and keeps_of(data, rows, row(*corner), closed=True):
            corners.append(row(*corner))
    value = min(cost_of(weights, corner) for corner in corners)
    ends = [rooms_of(data, corner) for corner in corners if cost_of(weights, corner) == value]
    return value, all(any(rooms[j] > 0 for rooms in ends) for j, kind in enumerate(rows) if kind)
