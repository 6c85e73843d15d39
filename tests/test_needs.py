import copy
import random
import unittest
from fractions import Fraction

from buybook import needs as module
from buybook.data import Data
from buybook.needs import greatest_need, judge_need, judge_strict_need, least_need
from buybook.rings import check
from buybook.steps import judge_chain
from samples import (axes, check_functions, cost_of, inside, keeps_of, large_data, large_prices, leads_of, least_of,
                     made_data, numbers, pair, row)

LITTLE = Fraction(1, 10 ** 12)
# Purchase 0 leads to 1 strictly, and 1 to 2 not strictly.
CHAIN = axes([2, 1, 3], [3, 2, 2], [3, 3, 2])
APART = axes([2, 3, 3], [3, 2, 3], [3, 3, 2])
RING = axes([2, 1], [1, 2])


def accepts(data, i, prices, money, paper, strictly=False):
    """Return whether a need paper is accepted by the words of point 33."""
    told, rows = numbers(paper), leads_of(data)[i]
    if len(told) != len(rows) or len(prices) != data.goods or min(told) < 0:
        return False
    if any(number for number, kind in zip(told, rows) if kind is None):
        return False
    for g in range(data.goods):
        if sum(number * Fraction(*buy[0][g]) for number, buy in zip(told, data.buys)) > Fraction(*prices[g]):
            return False
    if sum(number * cost_of(*buy) for number, buy in zip(told, data.buys)) < Fraction(*money):
        return False
    return not strictly or any(number > 0 for number, kind in zip(told, rows) if kind)


class NeedsCase(unittest.TestCase):
    def assert_ring(self, data, told):
        self.assertEqual((len(told), told[0]), (2, "ring"))
        self.assertIs(judge_chain(data, told[1]), True)
        self.assertEqual(told[1][0], told[1][-1])
        self.assertGreaterEqual(len(told[1]), 2)

    def assert_greatest(self, data, i, prices, money=None, met=None):
        passed = copy.deepcopy((inside(data), prices))
        told = greatest_need(data, i, prices)
        self.assertEqual((inside(data), prices), passed)
        if told[0] == "ring":
            self.assert_ring(data, told)
            return told
        self.assertEqual((type(told), len(told), told[0]), (tuple, 4, "told"))
        table = leads_of(data)
        costs = {j: cost_of(prices, data.buys[j][1]) for j in range(len(table)) if table[j][i] is not None}
        least = min(costs.values())
        self.assertEqual(told[1], pair(least))
        self.assertIs(told[2], not any(table[j][i] for j in costs if costs[j] == least))
        self.assertEqual(costs[told[3][0]], least)
        self.assertEqual(told[3][-1], i)
        self.assertIs(judge_chain(data, told[3]), not told[2])
        if money is not None:
            self.assertEqual(told[1:3], (pair(money), met))
        return told

    def assert_least(self, data, i, prices, expected=None, money=None):
        passed = copy.deepcopy((inside(data), prices))
        told = least_need(data, i, prices)
        self.assertEqual((inside(data), prices), passed)
        if told[0] == "ring":
            self.assert_ring(data, told)
            return told
        kind, need, basket, paper = told
        if expected is not None:
            self.assertEqual((kind, need), (expected, pair(money)))
        rows = leads_of(data)[i]
        self.assertEqual((Fraction(*need), kind == "met"), least_of(data, rows, prices, []))
        self.assertEqual([type(basket), len(basket), type(paper)], [list, data.goods, list])
        self.assertGreaterEqual(min(numbers(basket)), 0)
        self.assertEqual(cost_of(prices, basket), Fraction(*need))
        self.assertTrue(keeps_of(data, rows, basket, closed=kind == "near"))
        self.assertIs(judge_need(data, i, prices, need, paper), True)
        self.assertIs(judge_strict_need(data, i, prices, need, paper), kind == "near")
        self.assertTrue(accepts(data, i, prices, need, paper, strictly=kind == "near"))
        return told


class GreatestNeed(NeedsCase):
    def test_names_and_arguments(self):
        check_functions(self, module, {
            "greatest_need": "data i prices", "least_need": "data i prices",
            "judge_need": "data i prices money paper", "judge_strict_need": "data i prices money paper"})

    def test_rings(self):
        for i in range(2):
            self.assert_ring(RING, greatest_need(RING, i, row(1, 1)))
            own = axes([2, 3], [3, 2], links=[(1, 1, True)])
            self.assertEqual(greatest_need(own, i, row(1, 1)), ("ring", [1, 1]))

    def test_nothing_else_leads_to_it(self):
        for i in range(3):
            self.assertEqual(self.assert_greatest(APART, i, row(5, 6, 7), 5 + i, True)[3], [i])
        self.assertEqual(self.assert_greatest(CHAIN, 0, row(5, 1, 1), 5, True)[3], [0])

    def test_others_lead_to_it(self):
        # The others cost less: 1 strictly, through 0 alone.
        self.assertEqual(self.assert_greatest(CHAIN, 1, row(2, 5, 5), 2, False)[3], [0, 1])
        self.assertEqual(self.assert_greatest(CHAIN, 2, row(2, 5, 5), 2, False)[3], [0, 1, 2])
        self.assertEqual(self.assert_greatest(CHAIN, 2, row(5, 2, 5), 2, True)[3], [1, 2])
        self.assertEqual(self.assert_greatest(CHAIN, 2, row(5, 5, 2), 2, True)[3], [2])

    def test_several_that_cost_the_same(self):
        # Of those that cost just the money, one leads strictly, wherever it stands.
        self.assertEqual(self.assert_greatest(CHAIN, 2, row(2, 2, 2), 2, False)[3], [0, 1, 2])
        self.assertEqual(self.assert_greatest(CHAIN, 1, row(2, 2, 1), 2, False)[3], [0, 1])
        self.assert_greatest(CHAIN, 2, row(3, 2, 2), 2, True)
        self.assert_greatest(CHAIN, 2, row(2, 3, 2), 2, False)
        self.assert_greatest(CHAIN, 2, row(2 + LITTLE, 2, 2), 2, True)
        self.assert_greatest(CHAIN, 2, row(2 - LITTLE, 2, 2), 2 - LITTLE, False)
        backwards = axes([2, 3, 3], [2, 2, 3], [3, 1, 2])
        self.assertEqual(self.assert_greatest(backwards, 0, row(2, 2, 2), 2, False)[3], [2, 1, 0])
        middle = axes([2, 3, 3], [1, 2, 3], [2, 3, 2])
        for prices, met in [(row(2, 2, 2), False), (row(2, 3, 2), True), (row(2, 2, 3), False), (row(3, 3, 2), True)]:
            self.assert_greatest(middle, 0, prices, 2, met)

    def test_links(self):
        for links, money, met in [([], 3, True), ([(0, 2, False)], 1, True), ([(0, 2, True)], 1, False),
                                  ([(2, 0, True)], 3, True), ([(0, 1, True), (1, 2, False)], 1, False),
                                  ([(2, 2, False)], 3, True), ([(1, 2, True)], 2, False)]:
            self.assert_greatest(axes([2, 3, 3], [3, 2, 3], [3, 3, 2], links=links), 2, row(1, 2, 3), money, met)

    def test_made_data(self):
        rng = random.Random(13)
        seen = {}
        for turn in range(600):
            data = made_data(rng, rng.randint(1, 4), rng.randint(1, 4), turn % 4, rng.randint(2, 6))
            prices = row(*[rng.randint(1, 5) for _ in range(data.goods)])
            for i in range(len(data.buys)):
                greatest = self.assert_greatest(data, i, prices)
                least = self.assert_least(data, i, prices)
                if greatest[0] != "ring":
                    self.assertLessEqual(Fraction(*least[1]), Fraction(*greatest[1]))
                for key in [("greatest", greatest[0], greatest[-2]), ("least", least[0])]:
                    key = key[:2] if key[1] == "ring" else key
                    seen[key] = seen.get(key, 0) + 1
        self.assertEqual(len(seen), 6)
        self.assertGreater(min(seen.values()), 20, seen)


class LeastNeed(NeedsCase):
    def test_rings(self):
        for i in range(2):
            self.assert_ring(RING, least_need(RING, i, row(1, 1)))

    def test_one_purchase(self):
        # 7 were spent at (2, 3); whatever costs 7 there may be as good.
        data = Data(2, [(row(2, 3), row(2, 1))], [])
        for prices, money in [((2, 3), 7), ((4, 6), 14), ((2, 4), 7), ((3, 3), 7), ((1, 9), "7/2"), ((9, 1), "7/3")]:
            self.assert_least(data, 0, row(*prices), "met", money)
        data = Data(1, [(row(3), row("1/2"))], [])
        self.assert_least(data, 0, row(5), "met", "5/2")

    def test_met_and_near(self):
        # 0 leads to 1 strictly: at the prices of 1 more than 2 must be spent.
        self.assert_least(CHAIN, 0, row(2, 1, 3), "met", 2)
        data = Data(2, [(row(1, 1), row(4, 0)), (row(3, 1), row(0, 3))], [])
        self.assertEqual((check(data)[0], leads_of(data)[0]), ("taste", [False, True]))
        self.assert_least(data, 0, row(1, 1), "met", 4)
        self.assert_least(data, 0, row(3, 1), "met", 4)
        # The row of 1 alone bounds it here; then the rows of both at once.
        data = Data(2, [(row(3, 1), row(1, 1)), (row(1, 3), row(1, 0))], [])
        self.assertEqual((check(data)[0], leads_of(data)[0]), ("taste", [False, True]))
        self.assert_least(data, 0, row(1, 3), "met", "4/3")
        data = Data(2, [(row(1, 3), row(3, 1)), (row(3, 1), row(1, "5/3"))], [])
        self.assertEqual((check(data)[0], leads_of(data)[0]), ("taste", [False, False]))
        self.assert_least(data, 0, row(3, 1), "met", "14/3")
        data = Data(2, [(row(1, 3), row(4, 1)), (row(3, 1), row(1, "5/3"))], [])
        self.assertEqual((check(data)[0], leads_of(data)[0]), ("taste", [False, True]))
        self.assert_least(data, 0, row(1, 3), "met", 7)
        self.assert_least(data, 0, row(3, 1), "near", "14/3")
        self.assert_least(data, 0, row(1, 1), "near", "35/12")
        self.assert_least(data, 1, row(3, 1), "met", "14/3")

    def test_links(self):
        # The second good is cheap: 2 of it are enough for the 2 that were spent on 0, 4 for what was spent on 1.
        data = Data(2, [(row(1, 1), row(2, 0)), (row(9, 1), row(0, 4))], [])
        self.assertEqual(leads_of(data), [[False, None], [None, False]])
        for links, kind, money in [([], "met", 2), ([(0, 1, False)], "met", 4), ([(0, 1, True)], "near", 4),
                                   ([(1, 0, True)], "met", 2), ([(0, 0, False)], "met", 2)]:
            self.assert_least(Data(2, data.buys, links), 0, row(100, 1), kind, money)

    def test_large_integers(self):
        rng = random.Random(32)
        kinds = set()
        for _ in range(60):
            data = large_data(rng, rng.randint(2, 4), rng.randint(2, 4))
            for prices in [large_prices(rng, data.goods), data.buys[1][0]]:
                self.assert_greatest(data, 0, prices)
                kinds.add(self.assert_least(data, 0, prices)[0])
        self.assertEqual(sorted(kinds), ["met", "near", "ring"])

    def test_new_lists_each_time(self):
        near = Data(2, [(row(1, 3), row(4, 1)), (row(3, 1), row(1, "5/3"))], [])
        for data, prices in [(CHAIN, row(2, 1, 3)), (near, row(3, 1)), (RING, row(1, 1))]:
            for function in [greatest_need, least_need]:
                first, second = function(data, 0, prices), function(data, 0, prices)
                for part in first:
                    if isinstance(part, list):
                        part.clear()
                self.assertEqual(second, function(data, 0, prices))


class Papers(unittest.TestCase):
    """Purchase 0 leads to 1 strictly, to 2 not strictly, and not to 3."""

    data = axes([4, 3, 4, 5], [9, 2, 9, 9], [9, 9, 3, 9], [9, 9, 9, 1])

    def assert_judged(self, expected, prices, money, paper, data=None, i=0, strictly=None):
        data = data or self.data
        strictly = expected if strictly is None else strictly
        passed = copy.deepcopy((inside(data), prices, paper))
        self.assertIs(judge_need(data, i, prices, pair(money), paper), expected)
        self.assertIs(judge_strict_need(data, i, prices, pair(money), paper), strictly)
        self.assertEqual((inside(data), prices, paper), passed)
        self.assertIs(accepts(data, i, prices, pair(money), paper), expected)
        self.assertIs(accepts(data, i, prices, pair(money), paper, strictly=True), strictly)

    def test_a_paper_with_equality_everywhere(self):
        self.assertEqual(leads_of(self.data)[0], [False, True, False, None])
        # (4, 3, 4, 5) and twice (9, 2, 9, 9) and half of (9, 9, 3, 9).
        self.assert_judged(True, row("53/2", "23/2", "47/2", "55/2"), "19/2", row(1, 2, "1/2", 0))

    def test_each_condition_alone(self):
        paper = row(1, 2, "1/2", 0)
        prices = [Fraction(k, 2) for k in (53, 23, 47, 55)]
        self.assert_judged(False, row(*prices), Fraction(19, 2) + LITTLE, paper)
        for g in range(4):
            short = [price - LITTLE * (k == g) for k, price in enumerate(prices)]
            self.assert_judged(False, row(*short), "19/2", paper)
            self.assert_judged(False, row(*short), -100, paper)
        self.assert_judged(True, row(*[price + LITTLE for price in prices]), Fraction(19, 2) - LITTLE, paper)
        large = row(99, 99, 99, 99)
        for wrong in [row(-1, 2, 2, 0), row(-LITTLE, 2, 2, 0), row(1, -LITTLE, 1, 0), row(2, 1, -1, 0),
                      row(1, 2, 1, LITTLE), row(0, 0, 0, 1), row(1, 1, 1, -1)]:
            self.assert_judged(False, large, -100, wrong)
        self.assert_judged(True, large, 0, row(0, 0, 0, 0), strictly=False)
        self.assert_judged(False, large, LITTLE, row(0, 0, 0, 0))
        self.assert_judged(True, large, -1, row(0, 0, 0, 0), strictly=False)

    def test_lists_of_the_wrong_length(self):
        large = row(99, 99, 99, 99)
        for wrong in [[], row(1, 2, 1), row(1, 2, 1, 0, 0), row(1, 2, 1, 0, 1)]:
            self.assert_judged(False, large, 0, wrong)
        for prices in [[], large[:3], [*large, (9, 1)]]:
            self.assert_judged(False, prices, 0, row(1, 0, 0, 0))

    def test_strictly(self):
        large = row(99, 99, 99, 99)
        self.assert_judged(True, large, 4, row(1, 0, 0, 0), strictly=False)
        self.assert_judged(True, large, 7, row(1, 0, 1, 0), strictly=False)
        self.assert_judged(True, large, 4, row(1, LITTLE, 0, 0))
        self.assert_judged(True, large, 2, row(0, 1, 0, 0))
        self.assert_judged(True, large, 2, row(0, 1, 0, 0), i=1, strictly=False)
        self.assert_judged(False, large, 2, row(1, 0, 0, 0), i=1)

    def test_rings(self):
        self.assert_judged(True, row(3, 3), 4, row(1, 1), data=RING)
        self.assert_judged(True, row(3, 3), 2, row(1, 0), data=RING)
        self.assert_judged(False, row(2, 3), 4, row(1, 1), data=RING)
        own = axes([2, 3], [3, 2], links=[(0, 0, True)])
        self.assert_judged(True, row(2, 3), 2, row(1, 0), data=own)
        self.assert_judged(False, row(9, 9), 2, row(1, 1), data=own)

    def test_made_papers(self):
        rng = random.Random(14)
        seen = {}
        for turn in range(900):
            data = made_data(rng, 2, rng.randint(1, 4), turn % 3, 4)
            prices = row(rng.randint(1, 4), rng.randint(1, 4))
            i = rng.randrange(len(data.buys))
            told = least_need(data, i, prices)
            paper = told[3] if told[0] != "ring" else row(*[rng.choice([0, 0, 1]) for _ in data.buys])
            paper = [rng.choice([p, p, p, p, p, (1, 3)]) for p in paper]
            money = told[1] if told[0] != "ring" else pair(rng.randint(0, 6))
            first = accepts(data, i, prices, money, paper)
            second = accepts(data, i, prices, money, paper, strictly=True)
            self.assertIs(judge_need(data, i, prices, money, paper), first)
            self.assertIs(judge_strict_need(data, i, prices, money, paper), second)
            seen[first, second] = seen.get((first, second), 0) + 1
        self.assertEqual(len(seen), 3)
        self.assertGreater(min(seen.values()), 40, seen)


if __name__ == "__main__":
    unittest.main()
