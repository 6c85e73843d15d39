import random
import unittest
from fractions import Fraction

from buybook import buying as module
from buybook.buying import buys
from buybook.data import Data
from buybook.errors import NotAllowed
from buybook.reach import keeps
from buybook.steps import judge_chain
from buybook.tastes import judge_taste
from samples import axes, check_functions, cost_of, inside, made_data, pair, reached_of, rooms_of, row

LITTLE = Fraction(1, 10 ** 12)
# At its own prices 7 were spent on the one purchase; at the prices (3, 2) its amounts cost 8.
ONE_BUY = Data(2, [(row(2, 3), row(2, 1))], [])
# Purchase 0 leads to 1 strictly, and 1 to 2 not strictly.
CHAIN = axes([2, 1, 3], [3, 2, 2], [3, 3, 2])
RING = axes([2, 1], [1, 2])


class BuyingCase(unittest.TestCase):
    def assert_told(self, data, prices, money, basket, expected=None):
        before = inside(data)
        passed = (list(prices), list(basket))
        told = buys(data, prices, pair(money), basket)
        self.assertIs(type(told), tuple)
        if expected is not None:
            self.assertEqual(told[0], expected)
        getattr(self, "check_" + told[0])(data, prices, money, basket, *told[1:])
        self.assertEqual((inside(data), (prices, basket)), (before, passed))
        return told

    def check_taste(self, data, prices, money, basket, taste):
        self.assertTrue(keeps(data, prices, pair(money), basket))
        wider = Data(data.goods, [*data.buys, (prices, basket)], data.links)
        self.assertIs(judge_taste(wider, taste), True)
        self.assertEqual([type(part) for part in taste], [list, list])

    def check_row(self, data, prices, money, basket, j, chain):
        self.assertFalse(keeps(data, prices, pair(money), basket))
        kind = reached_of(data, prices, pair(money))[j]
        self.assertIsNotNone(kind)
        room = rooms_of(data, basket)[j]
        self.assertTrue(room < 0 or (room == 0 and kind))
        strict = judge_chain(data, chain)
        self.assertIsNotNone(strict)
        price = cost_of(prices, data.buys[chain[0]][1])
        self.assertLessEqual(price, money)
        self.assertEqual(chain[-1], j)
        self.assertIs(strict or price < money, kind)

    def check_ring(self, data, prices, money, basket, chain):
        self.assertIs(judge_chain(data, chain), True)
        self.assertEqual(chain[0], chain[-1])
        self.assertGreaterEqual(len(chain), 2)


class Buys(BuyingCase):
    def test_names_and_arguments(self):
        check_functions(self, module, {"buys": "data prices money basket"})

    def test_refused_first_of_all(self):
        for data in [ONE_BUY, RING, Data(2, [], [])]:
            for basket in [row(2, 1 + LITTLE), row(2, 1 - LITTLE), row(0, 0), row(100, 0)]:
                before = inside(data)
                with self.assertRaises(NotAllowed):
                    buys(data, row(3, 2), (8, 1), basket)
                self.assertEqual(inside(data), before)

    def test_rings(self):
        for basket in [row(2, 1), row(0, 4), row("8/3", 0)]:
            self.assert_told(RING, row(3, 2), 8, basket, "ring")
        # Here a row is not kept, either.
        self.assert_told(RING, row(3, 2), 2, row(0, 1), "ring")
        self.assertFalse(keeps(RING, row(3, 2), (2, 1), row(0, 1)))
        own = axes([2, 3], [3, 2], links=[(1, 1, True)])
        self.assertEqual(self.assert_told(own, row(1, 1), "1/9", row("1/9", 0), "ring"), ("ring", [1, 1]))

    def test_no_purchases(self):
        for basket in [row(2, 1), row(0, 4), row("8/3", 0)]:
            told = self.assert_told(Data(2, [], []), row(3, 2), 8, basket, "taste")
            self.assertEqual([len(part) for part in told[1]], [1, 1])

    def test_the_edge_of_a_row_that_is_reached_not_strictly_or_strictly(self):
        # The amounts (2, 1) cost 8 at the prices (3, 2); at the prices (2, 3) they cost 7.
        edge = row(2, 1)
        self.assert_told(ONE_BUY, row(3, 2), 8, edge, "taste")
        for x, expected in [(2 + LITTLE, "row"), (2 - LITTLE, "taste")]:
            self.assert_told(ONE_BUY, row(3, 2), 8, row(x, (8 - 3 * x) / 2), expected)
        # With money 9 the purchase is reached strictly, and (13/5, 3/5) costs just 7 at its prices.
        x = Fraction(13, 5)
        for more, expected in [(0, "row"), (LITTLE, "row"), (-LITTLE, "taste")]:
            self.assert_told(ONE_BUY, row(3, 2), 9, row(x + more, (9 - 3 * (x + more)) / 2), expected)
        # With money just below 8 it is not reached.
        self.assert_told(ONE_BUY, row(3, 2), 8 - LITTLE, row((8 - LITTLE) / 3, 0), "taste")

    def test_what_was_bought_at_the_same_prices(self):
        for data in [ONE_BUY, CHAIN, Data(2, [(row(1, 3), row(2, 1)), (row(2, 1), row(1, 4))], [])]:
            for i, (prices, amounts) in enumerate(data.buys):
                told = self.assert_told(data, prices, cost_of(prices, amounts), amounts, "taste")
                self.assertEqual(told[1][0][-1], told[1][0][i])
        # What was bought at other prices, which was cheaper there, can not be had now.
        data = Data(2, [(row(1, 3), row(2, 1)), (row(2, 1), row(1, 4))], [])
        self.assert_told(data, row(1, 3), 13, row(1, 4), "taste")
        self.assert_told(data, row(2, 1), 6, row(3, 0), "row")

    def test_rows_that_are_reached_through_others(self):
        prices = row(1, 9, 9)
        # Just the money buys 0, which leads to 1 and 2 strictly.
        for basket, expected in [(row(1, 0, 0), "taste"), (row(0, 0, "1/9"), "row"), (row(0, "1/9", 0), "row"),
                                 (row("1/2", "1/18", 0), "row")]:
            self.assert_told(CHAIN, prices, 1, basket, expected)
        told = self.assert_told(axes([2, 2, 3], [3, 2, 1], [3, 3, 2]), row(9, 1, 9), 1, row(0, 1, 0), "taste")
        self.assertEqual(len(told[1][0]), 4)
        # At (1, 1, 3) the money 1 buys 0 and 1; 1 leads to 2 strictly, and only at the prices of 2 is too little spent.
        data = axes([2, 4, 4], [9, 2, 1], [4, 6, 5])
        told = self.assert_told(data, row(1, 1, 3), 1, row("3/4", "1/4", 0), "row")
        self.assertEqual(told, ("row", 2, [1, 2]))

    def test_links_count(self):
        apart = [[2, 3, 3], [3, 2, 3], [3, 3, 2]]
        prices, basket = row(1, 2, 2), row(0, "1/2", 0)
        self.assert_told(axes(*apart), prices, 1, row(1, 0, 0), "taste")
        self.assert_told(axes(*apart), prices, 1, basket, "row")
        for links, expected in [([(0, 1, False)], "row"), ([(1, 0, True)], "row")]:
            self.assert_told(axes(*apart, links=links), prices, 1, basket, expected)
        prices, basket = row(1, 1, 1), row(1, 0, 0)
        for links, expected in [([], "taste"), ([(2, 0, False)], "taste"), ([(2, 0, True)], "row"),
                                ([(0, 2, True)], "taste"), ([(1, 2, True), (2, 0, False)], "row")]:
            told = self.assert_told(axes(*apart, links=links), prices, 1, basket, expected)
            if expected == "row":
                self.assertEqual((told[1], len(told[2])), (0, len(links) + 1))

    def test_made_data(self):
        rng = random.Random(5)
        seen = {"taste": 0, "row": 0, "ring": 0}
        for turn in range(900):
            data = made_data(rng, rng.randint(2, 4), rng.randint(1, 4), turn % 3, rng.randint(2, 9))
            prices, basket = rng.choice(data.buys)
            if turn % 4:
                prices = row(*[rng.randint(1, 9) for _ in range(data.goods)])
                basket = row(*[rng.choice([k == 0, k == turn % data.goods, 8]) for k in range(data.goods)])
            told = self.assert_told(data, prices, cost_of(prices, basket), basket)
            seen[told[0]] += 1
        self.assertGreater(min(seen.values()), 40, seen)

    def test_new_lists_each_time(self):
        for data, prices, money, basket in [(ONE_BUY, row(3, 2), 8, row(2, 1)), (RING, row(3, 2), 8, row(2, 1)),
                                            (ONE_BUY, row(3, 2), 9, row(3, 0))]:
            first, second = buys(data, prices, (money, 1), basket), buys(data, prices, (money, 1), basket)
            for part in [*first, *first[1]] if first[0] == "taste" else first:
                if isinstance(part, list):
                    part.clear()
            self.assertEqual(second, buys(data, prices, (money, 1), basket))


if __name__ == "__main__":
    unittest.main()
