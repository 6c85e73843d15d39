import random
import unittest

from buybook import data as module
from buybook.data import Data, cost, spent
from samples import check_functions, check_methods, cost_of, inside, made_data, pair, row

BIG = 10 ** 30 + 7


class DataCase(unittest.TestCase):
    def test_names_and_arguments(self):
        check_functions(self, module, {"cost": "prices amounts", "spent": "data i"})
        check_methods(self, module, "Data", {"__init__": "goods buys links"})

    def test_attributes(self):
        buys = [(row(1, 2), row(0, "1/2")), (row(3, "2/7"), row(1, 0))]
        data = Data(2, buys, [(0, 1, True), (1, 1, False)])
        self.assertEqual((data.goods, data.buys, data.links), (2, buys, [(0, 1, True), (1, 1, False)]))
        empty = Data(4, [], [])
        self.assertEqual((empty.goods, empty.buys, empty.links), (4, [], []))

    def test_lists_are_copied(self):
        prices, amounts, links = row(1, 2), row(3, 4), [(0, 0, False)]
        buys = [(prices, amounts)]
        data = Data(2, buys, links)
        before = inside(data)
        prices[0] = (9, 1)
        amounts.append((9, 1))
        buys.append((row(1, 1), row(1, 1)))
        links.clear()
        self.assertEqual(inside(data), before)
        self.assertEqual(before, (2, [(row(1, 2), row(3, 4))], [(0, 0, False)]))

    def test_cost(self):
        self.assertEqual(cost(row(2), row(3)), (6, 1))
        self.assertEqual(cost(row("1/2", "1/3"), row("1/3", "1/2")), (1, 3))
        self.assertEqual(cost(row(5, 7, 1, 2), row(0, 0, 0, 0)), (0, 1))
        self.assertEqual(cost([(BIG, 3), (1, BIG)], [(3, BIG), (BIG, 2)]), (3, 2))
        self.assertEqual(cost([(1, 3), (1, 7), (1, 11), (1, 13)], [(1, 1)] * 4), pair("1934/3003"))

    def test_spent(self):
        data = Data(2, [(row(1, 2), row(3, 4)), (row("1/2", 1), row("1/3", 0))], [])
        self.assertEqual([spent(data, 0), spent(data, 1)], [(11, 1), (1, 6)])

    def test_made_data(self):
        rng = random.Random(3)
        for _ in range(50):
            data = made_data(rng, rng.randint(1, 4), rng.randint(1, 6), 2)
            before = inside(data)
            for i, (prices, amounts) in enumerate(data.buys):
                self.assertEqual(spent(data, i), pair(cost_of(prices, amounts)))
                for _, other in data.buys:
                    self.assertEqual(cost(prices, other), pair(cost_of(prices, other)))
            self.assertEqual(inside(data), before)


if __name__ == "__main__":
    unittest.main()
