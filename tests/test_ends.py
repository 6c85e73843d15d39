import copy
import random
import unittest
from fractions import Fraction

from buybook import ends as module
from buybook.buying import buys
from buybook.data import Data
from buybook.ends import greatest, judge_paper, judge_strict_paper, least
from buybook.rings import check
from buybook.steps import judge_chain
from samples import (LARGE, axes, check_functions, cost_of, inside, keeps_of, large_data, large_prices, least_of,
                     made_data, numbers, pair, reached_of, row)

LITTLE = Fraction(1, 10 ** 12)
# 7 were spent on the one purchase; at the prices (3, 2) its amounts cost 8.
ONE_BUY = Data(2, [(row(2, 3), row(2, 1))], [])
PRICES = row(3, 2)
RING = axes([2, 1], [1, 2])
# Purchase 0 leads to 1 strictly, and 1 to 2 not strictly.
CHAIN = axes([2, 1, 3], [3, 2, 2], [3, 3, 2])
APART = axes([2, 3, 3], [3, 2, 3], [3, 3, 2])


def negative(weights):
    return [(-p, q) for p, q in weights]


def accepts(data, prices, money, weights, value, paper, strictly=False):
    """Return whether a paper is accepted by the words of point 26."""
    money_price, row_prices = Fraction(*paper[0]), numbers(paper[1])
    rows = reached_of(data, prices, money)
    if len(row_prices) != len(rows) or min(row_prices, default=0) < 0:
        return False
    if any(price for price, kind in zip(row_prices, rows) if kind is None):
        return False
    for g in range(data.goods):
        said = money_price * Fraction(*prices[g])
        said += sum(price * Fraction(*buy[0][g]) for price, buy in zip(row_prices, data.buys))
        if said > Fraction(*weights[g]):
            return False
    total = money_price * Fraction(*money) + sum(price * cost_of(*buy) for price, buy in zip(row_prices, data.buys))
    if total < Fraction(*value):
        return False
    return not strictly or any(price > 0 for price, kind in zip(row_prices, rows) if kind)


class EndsCase(unittest.TestCase):
    def assert_end(self, function, data, prices, money, weights, expected=None, value=None):
        """What is told is so by the words of the interface, and by all corners of what can be bought."""
        money = pair(money)
        passed = copy.deepcopy((inside(data), prices, weights))
        told = function(data, prices, money, weights)
        self.assertEqual((inside(data), prices, weights), passed)
        self.assertIs(type(told), tuple)
        if expected is not None:
            self.assertEqual(told[0], expected)
        if value is not None:
            self.assertEqual(told[1], pair(value))
        if told[0] == "ring":
            self.assert_ring(data, told)
            return told
        sign = 1 if function is least else -1
        rows = reached_of(data, prices, money)
        weights = weights if function is least else negative(weights)
        self.assertEqual((sign * Fraction(*told[1]), told[0] == "met"),
                         least_of(data, rows, weights, [(prices, money)]))
        self.assertEqual(told[1], pair(Fraction(*told[1])))
        getattr(self, "check_" + told[0])(data, prices, money, weights, pair(sign * Fraction(*told[1])), *told[2:])
        return told

    def assert_ring(self, data, told):
        _, chain = told
        self.assertIs(judge_chain(data, chain), True)
        self.assertEqual(chain[0], chain[-1])
        self.assertGreaterEqual(len(chain), 2)

    def assert_basket(self, data, prices, money, basket):
        self.assertEqual([type(basket), len(basket)], [list, data.goods])
        self.assertGreaterEqual(min(numbers(basket)), 0)
        self.assertEqual(cost_of(prices, basket), Fraction(*money))

    def assert_bought(self, data, prices, money, basket):
        self.assert_basket(data, prices, money, basket)
        self.assertTrue(keeps_of(data, reached_of(data, prices, money), basket))
        self.assertEqual(buys(data, prices, money, basket)[0], "taste")

    def assert_paper(self, data, prices, money, weights, value, paper):
        self.assertEqual([type(paper), type(paper[1])], [tuple, list])
        self.assertIs(judge_paper(data, prices, money, weights, value, paper), True)
        self.assertTrue(accepts(data, prices, money, weights, value, paper))

    def check_met(self, data, prices, money, weights, value, basket, paper):
        self.assert_bought(data, prices, money, basket)
        self.assertEqual(cost_of(weights, basket), Fraction(*value))
        self.assert_paper(data, prices, money, weights, value, paper)
        self.assertIs(judge_strict_paper(data, prices, money, weights, value, paper), False)

    def check_near(self, data, prices, money, weights, value, inner, limit, paper):
        self.assert_bought(data, prices, money, inner)
        self.assertGreater(cost_of(weights, inner), Fraction(*value))
        self.assert_basket(data, prices, money, limit)
        rows = reached_of(data, prices, money)
        self.assertTrue(keeps_of(data, rows, limit, closed=True))
        self.assertEqual(cost_of(weights, limit), Fraction(*value))
        self.assert_paper(data, prices, money, weights, value, paper)
        self.assertIs(judge_strict_paper(data, prices, money, weights, value, paper), True)
        self.assertTrue(accepts(data, prices, money, weights, value, paper, strictly=True))

    def assert_both(self, data, prices, money, weights, low, high):
        """Both ends are as told: each a kind and a value."""
        self.assert_end(least, data, prices, money, weights, *low)
        self.assert_end(greatest, data, prices, money, weights, *high)


class Ends(EndsCase):
    def test_names_and_arguments(self):
        words = "data prices money weights value paper"
        check_functions(self, module, {"judge_paper": words, "judge_strict_paper": words,
                                       "least": "data prices money weights", "greatest": "data prices money weights"})

    def test_rings(self):
        for data in [RING, axes([2, 3], [3, 2], links=[(1, 1, True)])]:
            for function in [least, greatest]:
                self.assert_end(function, data, PRICES, 8, row(1, 0), "ring")
                self.assert_end(function, data, PRICES, "1/9", row(-1, 0), "ring")

    def test_no_purchases(self):
        data = Data(2, [], [])
        for weights, low, high in [((1, 0), 0, "8/3"), ((0, 1), 0, 4), ((1, 1), "8/3", 4), ((3, 2), 8, 8),
                                   ((-1, 0), "-8/3", 0), ((-1, 2), "-8/3", 8), ((0, 0), 0, 0), ((-6, -4), -16, -16)]:
            self.assert_both(data, PRICES, 8, row(*weights), ("met", low), ("met", high))
        self.assert_both(Data(1, [], []), row("2/3"), 5, row(4), ("met", 30), ("met", 30))
        self.assert_both(Data(4, [], []), row(1, 2, 3, 4), 12, row(1, 1, 1, 1), ("met", 3), ("met", 12))

    def test_one_purchase(self):
        # The purchase is not reached, reached, reached strictly. 2 x + 3 y is at least 7 on 3 x + 2 y = money.
        self.assert_both(ONE_BUY, PRICES, 8 - LITTLE, row(1, 0), ("met", 0), ("met", (8 - LITTLE) / 3))
        self.assert_both(ONE_BUY, PRICES, 8, row(1, 0), ("met", 0), ("met", 2))
        self.assert_both(ONE_BUY, PRICES, 8, row(0, 1), ("met", 1), ("met", 4))
        self.assert_both(ONE_BUY, PRICES, 9, row(1, 0), ("met", 0), ("near", "13/5"))
        self.assert_both(ONE_BUY, PRICES, 9, row(0, 1), ("near", "3/5"), ("met", "9/2"))
        self.assert_both(ONE_BUY, PRICES, 9, row(-2, 1), ("near", "-23/5"), ("met", "9/2"))
        # With so much money every basket keeps the row.
        self.assert_both(ONE_BUY, PRICES, 10 ** 6, row(3, 0), ("met", 0), ("met", 10 ** 6))

    def test_met_although_a_row_is_strict(self):
        # Only the other end is bounded by the strict row.
        told = self.assert_end(least, ONE_BUY, PRICES, 9, row(1, 0), "met", 0)
        self.assertEqual(told[2], row(0, "9/2"))
        # Many baskets come to the least, and among them one that keeps the strict row; others do not.
        data = Data(3, [(row(2, 3, 3), row(2, 1, 0))], [])
        self.assert_both(data, row(3, 2, 3), 9, row(0, 0, 1), ("met", 0), ("met", 3))
        self.assert_both(data, row(3, 2, 3), 9, row(3, 2, 3), ("met", 9), ("met", 9))
        self.assert_both(data, row(3, 2, 3), 9, row(0, 0, 0), ("met", 0), ("met", 0))
        # The row touches the corner of the baskets: 9 of the second good cost just what was spent.
        data = Data(2, [(row(1, 1), row(9, 0))], [])
        self.assert_both(data, row(1, 1), 9, row(0, 1), ("met", 0), ("met", 9))
        self.assert_both(data, row(1, 1), 9 + LITTLE, row(0, 1), ("met", 0), ("met", 9 + LITTLE))

    def test_weights_that_are_multiples_of_the_prices(self):
        for k in [1, -2, Fraction(1, 3), 0]:
            weights = row(3 * k, 2 * k)
            self.assert_both(ONE_BUY, PRICES, 9, weights, ("met", 9 * k), ("met", 9 * k))
            # The row is a multiple of the prices, too.
            data = Data(2, [(row(6, 4), row(1, 1))], [])
            self.assert_both(data, PRICES, 9, weights, ("met", 9 * k), ("met", 9 * k))

    def test_several_purchases(self):
        # The rows of two purchases bound both ends.
        data = Data(2, [(row(2, 3), row(2, 1)), (row(4, 2), row(1, 2))], [])
        self.assertEqual(check(data)[0], "taste")
        self.assert_both(data, PRICES, 8, row(1, 0), ("near", 0), ("met", 2))
        self.assert_both(data, PRICES, 9, row(1, 0), ("met", 0), ("near", "13/5"))
        self.assert_both(CHAIN, row(1, 9, 9), 1, row(1, 0, 0), ("met", 1), ("met", 1))
        self.assert_both(CHAIN, row(1, 1, 9), 1, row(1, 0, 0), ("met", 1), ("met", 1))
        self.assert_both(APART, row(1, 1, 1), 1, row(1, 2, 4), ("met", 1), ("met", 4))
        self.assert_both(APART, row(1, 1, 1), 1 - LITTLE, row(1, 2, 4), ("met", 1 - LITTLE), ("met", 4 - 4 * LITTLE))
        self.assert_both(APART, row(1, 1, 1), "5/4", row(1, 2, 4), ("met", "5/4"), ("met", 5))

    def test_links(self):
        self.assert_both(APART, row(1, 2, 2), 1, row(1, 0, 0), ("met", 1), ("met", 1))
        # At (1, 1) the money 4 buys just 0; only by the link is 1 reached, and then strictly.
        data = Data(2, [(row(1, 3), row(4, 0)), (row(3, 1), row(1, 4))], [])
        for links, low, high in [
            ([], ("met", 0), ("met", 4)), ([(1, 0, True)], ("met", 0), ("met", 4)),
            ([(0, 1, False)], ("met", "3/2"), ("met", 4)), ([(0, 1, True)], ("near", "3/2"), ("met", 4)),
        ]:
            self.assert_both(Data(2, data.buys, links), row(1, 1), 4, row(1, 0), low, high)

    def test_large_integers(self):
        rng = random.Random(31)
        kinds = set()
        for _ in range(40):
            data = large_data(rng, rng.randint(2, 4), rng.randint(1, 3))
            prices = large_prices(rng, data.goods)
            money = cost_of(prices, data.buys[0][1]) + rng.randint(0, 1)
            weights = row(*[rng.randint(-LARGE, LARGE) for _ in prices])
            for function in [least, greatest]:
                kinds.add(self.assert_end(function, data, prices, money, weights)[0])
        self.assertEqual(sorted(kinds), ["met", "near", "ring"])

    def test_made_data(self):
        rng = random.Random(9)
        seen = {}
        for turn in range(900):
            data = made_data(rng, rng.randint(1, 4), rng.randint(0, 5), turn % 4, rng.randint(2, 6))
            prices = row(*[Fraction(rng.randint(1, 5), rng.choice([1, 2])) for _ in range(data.goods)])
            money = Fraction(rng.randint(1, 30), rng.choice([1, 2]))
            if turn % 2 and data.buys:
                money = cost_of(prices, rng.choice(data.buys)[1])
            weights = row(*[Fraction(rng.randint(-3, 3), rng.choice([1, 3])) for _ in range(data.goods)])
            low = self.assert_end(least, data, prices, money, weights)
            high = self.assert_end(greatest, data, prices, money, weights)
            if low[0] != "ring":
                self.assertLessEqual(Fraction(*low[1]), Fraction(*high[1]))
            for name, told in [("least", low), ("greatest", high)]:
                seen[name, told[0]] = seen.get((name, told[0]), 0) + 1
        self.assertEqual(len(seen), 6)
        self.assertGreater(min(seen.values()), 15, seen)

    def test_the_greatest_is_told_itself(self):
        self.assertEqual(greatest(ONE_BUY, PRICES, (9, 1), row(1, 0))[:2], ("near", (13, 5)))
        paper = greatest(ONE_BUY, PRICES, (9, 1), row(1, 0))[-1]
        self.assertTrue(judge_strict_paper(ONE_BUY, PRICES, (9, 1), row(-1, 0), (-13, 5), paper))
        self.assertFalse(judge_paper(ONE_BUY, PRICES, (9, 1), row(1, 0), (13, 5), paper))

    def test_new_lists_each_time(self):
        for data, weights in [(ONE_BUY, row(1, 0)), (ONE_BUY, row(0, 1)), (RING, row(0, 1))]:
            for function in [least, greatest]:
                first, second = [function(data, PRICES, (9, 1), weights) for _ in range(2)]
                for part in [*first, *first[-1]]:
                    if isinstance(part, list):
                        part.clear()
                self.assertEqual(second, function(data, PRICES, (9, 1), weights))


class Papers(unittest.TestCase):
    """At the prices (3, 2) and money 9, purchase 0 is reached strictly; 1 is not reached."""

    data = Data(2, [(row(2, 3), row(2, 1)), (row(1, 1), row(9, 9))], [])

    def assert_judged(self, expected, weights, value, paper, data=None, money=(9, 1), strictly=None):
        """Judged as told, strictly or not, and so by the words of point 26; what was passed is as it was."""
        data = data or self.data
        strictly = expected if strictly is None else strictly
        passed = copy.deepcopy((inside(data), weights, paper))
        self.assertIs(judge_paper(data, PRICES, money, weights, pair(value), paper), expected)
        self.assertIs(judge_strict_paper(data, PRICES, money, weights, pair(value), paper), strictly)
        self.assertEqual((inside(data), weights, paper), passed)
        self.assertIs(accepts(data, PRICES, money, weights, pair(value), paper), expected)
        self.assertIs(accepts(data, PRICES, money, weights, pair(value), paper, strictly=True), strictly)

    def test_a_paper_with_equality_everywhere(self):
        # Money price -2 and row price 3: (-6 + 6, -4 + 9) at the goods, -18 + 21 in all.
        self.assert_judged(True, row(0, 5), 3, ((-2, 1), row(3, 0)))

    def test_each_condition_alone(self):
        self.assert_judged(False, row(0, 5), 3 + LITTLE, ((-2, 1), row(3, 0)))
        self.assert_judged(False, row(-LITTLE, 5), 3, ((-2, 1), row(3, 0)))
        self.assert_judged(False, row(0, 5 - LITTLE), 3, ((-2, 1), row(3, 0)))
        self.assert_judged(True, row(LITTLE, 5 + LITTLE), 3 - LITTLE, ((-2, 1), row(3, 0)))
        # A row price below 0: all else holds.
        self.assert_judged(False, row(9, 9), -100, ((1, 1), row(-1, 0)))
        self.assert_judged(True, row(9, 9), -100, ((1, 1), row(1, 0)))
        self.assert_judged(False, row(9, 9), -100, ((1, 1), row(-LITTLE, 0)))
        self.assert_judged(False, row(9, 9), -100, ((1, 1), row(1, -1)))
        # A row price above 0 for a purchase that is not reached.
        self.assert_judged(False, row(9, 9), -100, ((1, 1), row(0, LITTLE)))
        self.assert_judged(False, row(9, 9), -100, ((1, 1), row(1, 1)))

    def test_lists_of_the_wrong_length(self):
        for row_prices in [[], row(1), row(1, 0, 0), row(1, 0, 1)]:
            self.assert_judged(False, row(9, 9), -100, ((1, 1), row_prices))
        for prices, weights in [(row(3), row(9, 9)), (row(3, 2, 1), row(9, 9)), (PRICES, row(9)), (PRICES, []),
                                (PRICES, row(9, 9, 9)), ([], row(9, 9))]:
            for data in [Data(2, [], []), self.data]:
                paper = ((0, 1), [(0, 1)] * len(data.buys))
                self.assertIs(judge_paper(data, PRICES, (9, 1), row(9, 9), (-100, 1), paper), True)
                self.assertIs(judge_paper(data, prices, (9, 1), weights, (-100, 1), paper), False)
                self.assertIs(judge_strict_paper(data, prices, (9, 1), weights, (-100, 1), paper), False)

    def test_money_prices_of_either_sign(self):
        for weights, value, money_price, expected in [
            ((3, 2), 9, 1, True), ((3, 2), 9 + LITTLE, 1, False), ((3, 2), 9, 1 + LITTLE, False),
            ((3, 2), 9, 1 - LITTLE, False), ((4, 3), 9, 1, True), ((-3, -2), -9, -1, True), ((-3, -2), -9, 0, False),
            ((-3, -2), -9 + LITTLE, -1, False), ((-3, -2), -18, -2, True), ((0, 0), 0, 0, True),
            ((0, 0), LITTLE, 0, False), ((0, 5), 0, 0, True), ((-1, 5), -3, "-1/3", True), ((-1, 5), -3, 0, False),
        ]:
            self.assert_judged(expected, row(*weights), value, (pair(money_price), row(0, 0)), strictly=False)

    def test_strict_rows(self):
        # With money 8 the purchase is reached, but not strictly; with less, not at all.
        paper = ((-2, 1), row(3, 0))
        self.assert_judged(True, row(0, 5), 5, paper, money=(8, 1), strictly=False)
        self.assert_judged(False, row(0, 5), 5, paper, money=pair(8 - LITTLE))
        self.assert_judged(True, row(0, 5), 5 - 3 * LITTLE, paper, money=pair(8 + LITTLE))
        # Strictly only if a strict row has a price.
        self.assert_judged(True, row(3, 2), 9, ((1, 1), row(0, 0)), strictly=False)
        two = Data(2, [*self.data.buys, (row(4, 1), row(0, "9/2"))], [])
        self.assertEqual(reached_of(two, PRICES, (9, 1)), [True, None, False])
        self.assert_judged(True, row(9, 9), 9, ((1, 1), row(0, 0, 1)), data=two, strictly=False)
        self.assert_judged(True, row(9, 9), 9, ((1, 1), row(1, 0, 1)), data=two)
        self.assert_judged(True, row(9, 9), 9, ((1, 1), row(LITTLE, 0, 0)), data=two)
        self.assert_judged(False, row(9, 9), 9, ((1, 1), row(1, LITTLE, 0)), data=two)

    def test_no_purchases_and_rings(self):
        empty = Data(2, [], [])
        self.assert_judged(True, row(3, 2), 9, ((1, 1), []), data=empty, strictly=False)
        self.assert_judged(False, row(3, 2), 10, ((1, 1), []), data=empty)
        self.assert_judged(False, row(3, 2), 9, ((1, 1), row(0)), data=empty)
        # (2, 1) and (1, 2) cost 2 each of their own, and each leads to the other strictly.
        self.assert_judged(True, row(9, 9), 9 + 4, ((1, 1), row(1, 1)), data=RING)
        self.assert_judged(False, row(9, 9), 9 + 4 + LITTLE, ((1, 1), row(1, 1)), data=RING)
        self.assert_judged(True, row(3, 2), 9, ((1, 1), row(0, 0)), data=RING, strictly=False)
        self.assert_judged(False, row(9, 9), 0, ((1, 1), row(1, 0)), data=RING, money=(1, 1))

    def test_made_papers(self):
        rng = random.Random(10)
        seen = {}
        for turn in range(900):
            data = made_data(rng, 2, rng.randint(1, 4), turn % 3, 4)
            money = pair(cost_of(PRICES, rng.choice(data.buys)[1]))
            told = least(data, PRICES, money, row(rng.randint(-2, 2), rng.randint(-2, 2)))
            row_prices = told[-1][1] if told[0] != "ring" else row(*[rng.choice([0, 0, 1, 2]) for _ in data.buys])
            row_prices = [rng.choice([p, p, p, p, (1, 3)]) for p in row_prices]
            paper = (rng.choice([(0, 1), (-1, 2), (1, 1)]), row_prices)
            weights = row(rng.randint(-1, 6), rng.randint(-1, 6))
            value = pair(rng.randint(-9, 9))
            first = accepts(data, PRICES, money, weights, value, paper)
            second = accepts(data, PRICES, money, weights, value, paper, strictly=True)
            self.assertIs(judge_paper(data, PRICES, money, weights, value, paper), first)
            self.assertIs(judge_strict_paper(data, PRICES, money, weights, value, paper), second)
            seen[first, second] = seen.get((first, second), 0) + 1
        self.assertEqual(len(seen), 3)
        self.assertGreater(min(seen.values()), 30, seen)


if __name__ == "__main__":
    unittest.main()
