"""What several tests use: fractions, made-up data, and a check of the interface."""

import copy
import inspect
from fractions import Fraction

from buybook.data import Data


def pair(number):
    """Return a number as the program writes it."""
    number = Fraction(number)
    return (number.numerator, number.denominator)


def row(*numbers):
    """Return a list of numbers, or of texts such as "1/2", as the program writes it."""
    return [pair(number) for number in numbers]


def numbers(found):
    """Return a list of the program's fractions as Fractions."""
    return [Fraction(p, q) for p, q in found]


def cost_of(prices, amounts):
    """Return as a Fraction what amounts cost."""
    return sum((x * y for x, y in zip(numbers(prices), numbers(amounts))), Fraction(0))


def check_functions(case, module, expected):
    """Each function is defined in the module itself and has these arguments."""
    for name, words in expected.items():
        function = getattr(module, name)
        case.assertEqual(function.__module__, module.__name__)
        case.assertEqual(list(inspect.signature(function).parameters), words.split(), name)


def check_methods(case, module, name, expected):
    """Each method is defined in the class itself, the class in the module, with these arguments."""
    owner = getattr(module, name)
    case.assertEqual(owner.__module__, module.__name__)
    for method, words in expected.items():
        case.assertIn(method, vars(owner))
        case.assertEqual(list(inspect.signature(vars(owner)[method]).parameters), ["self", *words.split()], method)


def inside(data):
    """Return a copy of all that data hold."""
    return copy.deepcopy((data.goods, data.buys, data.links))


def made_data(rng, goods, many, links, most=3):
    """Return made-up data; with small numbers, so that equal costs are frequent."""
    buys = []
    while len(buys) < many:
        prices = row(*[Fraction(rng.randint(1, most), rng.choice([1, 1, 2])) for _ in range(goods)])
        amounts = row(*[Fraction(rng.randint(0, most), rng.choice([1, 1, 3])) for _ in range(goods)])
        if any(p for p, _ in amounts):
            buys.append((prices, amounts))
    said = [(rng.randrange(many), rng.randrange(many), rng.random() < 0.3) for _ in range(links if many else 0)]
    return Data(goods, buys, said)


def step_of(data, i, j):
    """Return the step from i to j by the words of point 12."""
    kinds = [strict for a, b, strict in data.links if (a, b) == (i, j)]
    if i != j:
        rest = cost_of(*data.buys[i]) - cost_of(data.buys[i][0], data.buys[j][1])
        if rest >= 0:
            kinds.append(rest > 0)
    return any(kinds) if kinds else None


def leads_of(data):
    """Return what leads to what, by closing the table of steps."""
    many = range(len(data.buys))
    steps = {(i, j): step_of(data, i, j) for i in many for j in many}
    joined = {(i, j): i == j or steps[i, j] is not None for i in many for j in many}
    for k in many:
        for i in many:
            for j in many:
                joined[i, j] = joined[i, j] or (joined[i, k] and joined[k, j])
    strict = {(i, j): any(steps[a, b] and joined[i, a] and joined[b, j] for a in many for b in many)
              for i in many for j in many}
    return [[strict[i, j] if joined[i, j] else None for j in many] for i in many]
