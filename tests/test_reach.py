import random
import unittest
from fractions import Fraction

from buybook import reach as module
from buybook.data import Data
from buybook.reach import keeps, reach_chain, reached
from buybook.steps import judge_chain
from samples import (axes, check_functions, cost_of, inside, keeps_of, made_data, pair, reached_of, rooms_of, row)

LITTLE = Fraction(1, 10 ** 12)
# Purchase 0 leads to 1 and 1 to 2, neither strictly, and nothing else leads to another one.
CHAIN = axes([2, 2, 3], [3, 2, 2], [3, 3, 2])
FIRST_STRICT = axes([2, 1, 3], [3, 2, 2], [3, 3, 2])
LAST_STRICT = axes([2, 2, 3], [3, 2, 1], [3, 3, 2])
# At these prices and money 1, purchase 0 costs just the money and the others cost more.
FAR = row(1, 9, 9)


class ReachCase(unittest.TestCase):
    def assert_reached(self, data, prices, money, expected=None):
        """What is reached is so by the words of point 22, and each reach chain by those of point 23."""
        before = inside(data)
        passed = list(prices)
        told = reached(data, prices, pair(money))
        self.assertEqual(told, reached_of(data, prices, pair(money)))
        if expected is not None:
            self.assertEqual(told, expected)
        self.assertTrue(all(kind is None or isinstance(kind, bool) for kind in told))
        for j, kind in enumerate(told):
            self.assert_chain(data, prices, money, j, kind)
        self.assertEqual((inside(data), prices), (before, passed))

    def assert_chain(self, data, prices, money, j, kind):
        chain = reach_chain(data, prices, pair(money), j)
        if kind is None:
            self.assertIsNone(chain)
            return
        self.assertIs(type(chain), list)
        strict = judge_chain(data, chain)
        self.assertIsNotNone(strict)
        self.assertEqual(chain[-1], j)
        price = cost_of(prices, data.buys[chain[0]][1])
        self.assertLessEqual(price, money)
        self.assertIs(strict or price < money, kind)


class Reached(ReachCase):
    def test_names_and_arguments(self):
        check_functions(self, module, {"reached": "data prices money", "reach_chain": "data prices money j",
                                       "keeps": "data prices money basket"})

    def test_no_purchases(self):
        for goods in [1, 4]:
            self.assert_reached(Data(goods, [], []), row(*[2] * goods), 5, [])

    def test_one_purchase(self):
        data = Data(2, [(row(1, 3), row(2, 1))], [])
        for money, expected in [(9, [True]), (8, [False]), (7, [None]), (8 + LITTLE, [True]), (8 - LITTLE, [None]),
                                (10 ** 12, [True]), (LITTLE, [None])]:
            self.assert_reached(data, row(3, 2), Fraction(money), expected)

    def test_the_prices_of_a_purchase(self):
        data = Data(2, [(row(1, 3), row(2, 1)), (row(2, 1), row(1, 4))], [])
        # At the prices of 0, its amounts cost 5 and those of 1 cost 13; at those of 1, 5 and 6, so 1 leads to 0.
        for prices, money, expected in [
            (row(1, 3), 5, [False, None]), (row(1, 3), 4, [None, None]), (row(1, 3), 6, [True, None]),
            (row(1, 3), 13, [True, False]), (row(1, 3), 14, [True, True]),
            (row(2, 1), 6, [True, False]), (row(2, 1), 5, [False, None]), (row(2, 1), 7, [True, True]),
            (row(2, 6), 10, [False, None]),
        ]:
            self.assert_reached(data, prices, money, expected)

    def test_through_a_chain(self):
        for money, expected in [(1, [False, False, False]), (1 - LITTLE, [None] * 3), (1 + LITTLE, [True] * 3)]:
            self.assert_reached(CHAIN, FAR, money, expected)
        self.assert_reached(FIRST_STRICT, FAR, 1, [False, True, True])
        self.assert_reached(LAST_STRICT, FAR, 1, [False, False, True])
        self.assertEqual(reach_chain(LAST_STRICT, FAR, (1, 1), 2), [0, 1, 2])

    def test_from_the_middle_of_a_chain(self):
        self.assert_reached(LAST_STRICT, row(9, 1, 9), 1, [None, False, True])
        self.assert_reached(FIRST_STRICT, row(9, 1, 9), 1, [None, False, False])
        self.assert_reached(CHAIN, row(9, 9, 1), 1, [None, None, False])
        self.assert_reached(CHAIN, row(9, 9, 1), 8, [None, None, True])

    def test_in_both_ways(self):
        # Just the money buys 0, from which no chain to 2 is strict, and 1, from which one is.
        self.assert_reached(LAST_STRICT, row(1, 1, 9), 1, [False, False, True])
        # 2 costs just the money itself, and 0 leads to it, too.
        self.assert_reached(FIRST_STRICT, row(1, 9, 1), 1, [False, True, True])
        self.assert_reached(CHAIN, row(1, 9, 1), 1, [False, False, False])
        # 0 costs less than the money, 1 just the money: each leads to 2, but only from 0 is it strict.
        self.assert_reached(CHAIN, row(1, 2, 9), 2, [True, True, True])
        self.assert_reached(CHAIN, row(2, 1, 9), 2, [False, True, True])
        either = axes([2, 3, 2], [3, 2, 2], [3, 3, 2])
        self.assert_reached(either, row(2, 1, 9), 2, [False, True, True])
        self.assert_reached(either, row(1, 2, 9), 2, [True, False, True])
        self.assert_reached(either, row(2, 2, 9), 2, [False, False, False])
        self.assert_reached(either, row(2, 2, 1), 2, [False, False, True])

    def test_a_way_round_that_alone_is_strict(self):
        # 1 and 2 are as good as 0, and 2 is better than 1: strict only by going round.
        apart = axes([2, 3, 3], [3, 2, 3], [3, 3, 2], links=[(0, 1, False), (1, 2, False), (2, 1, True)])
        self.assert_reached(apart, FAR, 1, [False, True, True])
        self.assertEqual(reach_chain(apart, FAR, (1, 1), 1), [0, 1, 2, 1])
        # The direct step is not strict, the way through 2 is.
        round_about = axes([2, 2, 2], [3, 2, 3], [3, 1, 2])
        self.assert_reached(round_about, FAR, 1, [False, True, False])
        self.assertEqual(reach_chain(round_about, FAR, (1, 1), 1), [0, 2, 1])

    def test_links(self):
        for links, expected in [([], [False, None, None]), ([(0, 1, False)], [False, False, None]),
                                ([(0, 1, True)], [False, True, None]), ([(1, 0, True)], [False, None, None]),
                                ([(0, 2, True), (2, 1, False)], [False, True, True]),
                                ([(0, 0, False)], [False, None, None])]:
            self.assert_reached(axes([2, 3, 3], [3, 2, 3], [3, 3, 2], links=links), FAR, 1, expected)

    def test_rings(self):
        ring = axes([2, 1, 3], [1, 2, 3], [3, 3, 2])
        self.assert_reached(ring, FAR, 1, [True, True, None])
        self.assert_reached(ring, row(9, 9, 1), 1, [None, None, False])
        own = axes([2, 3], [3, 2], links=[(0, 0, True)])
        self.assert_reached(own, row(1, 9), 1, [True, None])
        self.assertEqual(reach_chain(own, row(1, 9), (1, 1), 0), [0, 0])
        self.assert_reached(own, row(9, 1), 1, [None, False])

    def test_made_data(self):
        rng = random.Random(3)
        seen = {}
        for turn in range(700):
            data = made_data(rng, rng.randint(1, 4), rng.randint(1, 7), turn % 4, rng.randint(2, 9))
            prices = row(*[rng.randint(1, 4) for _ in range(data.goods)])
            money = Fraction(rng.randint(1, 30), 2)
            if turn % 2:
                money = cost_of(prices, rng.choice(data.buys)[1])
            self.assert_reached(data, prices, money)
            for kind in reached(data, prices, pair(money)):
                seen[kind] = seen.get(kind, 0) + 1
        self.assertGreater(min(seen.values()), 100)

    def test_new_lists_each_time(self):
        for told in [lambda: reached(CHAIN, FAR, (1, 1)), lambda: reach_chain(CHAIN, FAR, (1, 1), 2)]:
            first, second = told(), told()
            first.clear()
            self.assertEqual(second, told())


class Keeps(ReachCase):
    def assert_keeps(self, data, prices, money, basket, expected):
        before = inside(data)
        told = keeps(data, prices, pair(money), basket)
        self.assertIs(told, expected)
        self.assertIs(told, keeps_of(data, reached_of(data, prices, pair(money)), basket))
        self.assertEqual(inside(data), before)

    def test_at_the_edge_of_a_row(self):
        # At the prices of the purchase the basket costs less than the 5 that were spent, just that, or more.
        data = Data(2, [(row(1, 3), row(2, 1))], [])
        baskets = [row(2 - LITTLE, 1), row(2, 1), row(2 + LITTLE, 1)]
        for money, expected in [(8, [False, True, True]), (8 + LITTLE, [False, False, True]),
                                (8 - LITTLE, [True, True, True])]:
            for basket, kept in zip(baskets, expected):
                self.assert_keeps(data, row(3, 2), money, basket, kept)
        for basket, kept in [(row(0, "5/3"), True), (row(5, 0), True), (row("499/100", 0), False), (row(0, 2), True)]:
            self.assert_keeps(data, row(3, 2), 8, basket, kept)

    def test_no_purchases_and_nothing_in_the_basket(self):
        for basket in [row(0, 0), row(1, 7)]:
            self.assert_keeps(Data(2, [], []), row(3, 2), 8, basket, True)
        data = Data(2, [(row(1, 3), row(2, 1))], [])
        self.assert_keeps(data, row(3, 2), 8, row(0, 0), False)
        self.assert_keeps(data, row(3, 2), 7, row(0, 0), True)

    def test_it_is_not_asked_what_the_basket_costs(self):
        data = Data(2, [(row(1, 3), row(2, 1))], [])
        for basket in [row(100, 100), row(5, 0), row(0, 5)]:
            self.assertNotEqual(cost_of(row(3, 2), basket), 8)
            self.assert_keeps(data, row(3, 2), 8, basket, True)

    def test_each_row_counts(self):
        # All are reached; the last one strictly. Each row alone is not kept by one of the baskets.
        for basket, expected in [(row(1, 1, 1), True), (row(0, 0, "1/2"), False), (row(2, 0, 0), True),
                                 (row(0, 0, "3/2"), False), (row(0, 0, 2), True), (row(0, 1, 0), True),
                                 (row("3/4", 0, 0), False), (row(1, 0, 0), True), (row(0, 0, 0), False)]:
            self.assert_keeps(LAST_STRICT, FAR, 1, basket, expected)
        # Only 2 is reached, strictly.
        for basket, expected in [(row(0, 0, 1), False), (row(0, 0, 1 + LITTLE), True), (row("2/3", 0, 0), False),
                                 (row(0, "2/3", LITTLE), True), (row("1/3", "1/3", 0), False)]:
            self.assert_keeps(LAST_STRICT, row(9, 9, 1), 8, basket, expected)
        self.assertEqual(rooms_of(LAST_STRICT, row(0, 1, 0)), [0, 0, 1])
        # 0 is not reached here, and its row is not asked for.
        self.assert_keeps(LAST_STRICT, row(9, 1, 9), 1, row(0, 1, 0), True)
        self.assert_keeps(LAST_STRICT, row(9, 1, 9), 1, row("7/10", 0, 0), True)
        self.assert_keeps(LAST_STRICT, row(9, 1, 9), 1, row("2/3", 0, 0), False)

    def test_made_data(self):
        rng = random.Random(4)
        seen = {True: 0, False: 0}
        for turn in range(700):
            data = made_data(rng, rng.randint(1, 4), rng.randint(1, 4), turn % 3, rng.randint(2, 4))
            prices = row(*[rng.randint(1, 4) for _ in range(data.goods)])
            money = cost_of(prices, rng.choice(data.buys)[1])
            basket = rng.choice([row(*[rng.randint(0, 5) for _ in range(data.goods)]), rng.choice(data.buys)[1]])
            expected = keeps_of(data, reached_of(data, prices, pair(money)), basket)
            self.assert_keeps(data, prices, money, basket, expected)
            seen[expected] += 1
        self.assertGreater(min(seen.values()), 150)


if __name__ == "__main__":
    unittest.main()
