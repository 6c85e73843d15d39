import copy
import random
import unittest
from fractions import Fraction

from buybook import totals as module
from buybook.data import Data
from buybook.ends import least
from buybook.totals import total_least
from samples import axes, check_functions, cost_of, inside, made_data, pair, row

# 7 were spent on the one purchase; at the prices (3, 2) its amounts cost 8.
ONE_BUY = Data(2, [(row(2, 3), row(2, 1))], [])
RING = axes([2, 1], [1, 2])
EMPTY = Data(2, [], [])
MET = (ONE_BUY, row(3, 2), (8, 1))
NEAR = (ONE_BUY, row(3, 2), (9, 1))
BAD = (RING, row(3, 2), (9, 1))


class Totals(unittest.TestCase):
    def assert_total(self, asks, weights, expected):
        passed = copy.deepcopy(([(inside(data), prices, money) for data, prices, money in asks], weights))
        self.assertEqual(total_least(asks, weights), expected)
        self.assertEqual(([(inside(data), prices, money) for data, prices, money in asks], weights), passed)

    def test_names_and_arguments(self):
        check_functions(self, module, {"total_least": "asks weights"})

    def test_no_asks(self):
        self.assert_total([], row(1, 2), ("told", (0, 1), True))
        self.assert_total([], [], ("told", (0, 1), True))

    def test_one(self):
        self.assert_total([MET], row(0, 1), ("told", (1, 1), True))
        self.assert_total([NEAR], row(0, 1), ("told", (3, 5), False))
        self.assert_total([NEAR], row(1, 0), ("told", (0, 1), True))
        self.assert_total([(EMPTY, row(3, 2), (9, 1))], row(-1, 0), ("told", (-3, 1), True))

    def test_several(self):
        self.assert_total([MET, MET], row(0, 1), ("told", (2, 1), True))
        self.assert_total([MET, NEAR], row(0, 1), ("told", (8, 5), False))
        self.assert_total([NEAR, MET, MET], row(0, 1), ("told", (13, 5), False))
        self.assert_total([NEAR, (EMPTY, row(1, 1), (1, 2))], row(-1, 1), ("told", pair("-5/2"), False))
        self.assert_total([NEAR, NEAR], row(0, 1), ("told", (6, 5), False))

    def test_rings(self):
        self.assert_total([BAD], row(0, 1), ("ring", 0))
        self.assert_total([MET, BAD, NEAR], row(0, 1), ("ring", 1))
        self.assert_total([NEAR, MET, BAD, BAD], row(0, 1), ("ring", 2))
        self.assert_total([BAD, MET, BAD], row(0, 1), ("ring", 0))

    def test_made_data(self):
        rng = random.Random(12)
        seen = {}
        for _ in range(300):
            goods = rng.randint(1, 4)
            weights = row(*[rng.randint(-3, 3) for _ in range(goods)])
            asks = []
            for _ in range(rng.randint(0, 3)):
                data = made_data(rng, goods, rng.randint(1, 3), rng.randint(0, 1), rng.randint(2, 6))
                prices = row(*[rng.randint(1, 5) for _ in range(goods)])
                asks.append((data, prices, pair(cost_of(prices, data.buys[0][1]) + rng.randint(0, 1))))
            ends = [least(*ask, weights) for ask in asks]
            kinds = [told[0] for told in ends]
            if "ring" in kinds:
                expected = ("ring", kinds.index("ring"))
            else:
                expected = ("told", pair(sum(Fraction(*told[1]) for told in ends)), "near" not in kinds)
            self.assert_total(asks, weights, expected)
            seen[expected[0], expected[-1]] = seen.get((expected[0], expected[-1]), 0) + 1
        self.assertGreater(len(seen), 4)


if __name__ == "__main__":
    unittest.main()
