import copy
import random
import unittest
from fractions import Fraction

from buybook import tastes as module
from buybook.data import Data
from buybook.tastes import judge_taste, worth
from samples import check_functions, cost_of, inside, made_data, numbers, pair, row

BIG = 10 ** 30 + 7
ONE_BUY = Data(2, [(row(1, 2), row(3, 1))], [])
# At the prices of 0, where 4 was spent, the amounts of 1 cost 7/4 more; at those of 1 the amounts of 0 cost 1 more.
TWO = [(row(1, 3), row(4, 0)), (row("7/4", 2), row(2, "5/4"))]


def planes_of(data, taste, basket):
    """Return what the planes say, by the words of point 16."""
    return [number + weight * (cost_of(prices, basket) - cost_of(prices, amounts))
            for (prices, amounts), number, weight in zip(data.buys, numbers(taste[0]), numbers(taste[1]))]


def is_accepted(data, taste):
    """Return whether a taste of the right length is accepted, by the words of point 17."""
    told = numbers(taste[0])
    planes = [planes_of(data, taste, amounts) for _, amounts in data.buys]
    return (all(weight > 0 for weight in numbers(taste[1]))
            and all(said >= number for number, line in zip(told, planes) for said in line)
            and all(told[i] > told[j] if strict else told[i] >= told[j] for i, j, strict in data.links))


class Worth(unittest.TestCase):
    def test_names_and_arguments(self):
        check_functions(self, module, {"worth": "data taste basket", "judge_taste": "data taste"})

    def test_one_purchase(self):
        for number, weight, basket, expected in [
            (0, 1, row(3, 1), 0), (7, 1, row(3, 1), 7), (7, 1, row(0, 0), 2), (7, "1/5", row(0, 0), 6),
            ("1/2", "1/3", row(1, 1), "-1/6"), (-3, 2, row(5, 1), 1), (1, -2, row(5, 1), -3), (4, 0, row(9, 9), 4),
            (-1, -1, row(0, 0), 4),
        ]:
            self.assertEqual(worth(ONE_BUY, (row(number), row(weight)), basket), pair(expected))

    def test_the_least_of_several(self):
        data = Data(1, [(row(1), row(1)), (row(1), row(2)), (row(1), row(3))], [])
        for told, expected in [(row(5, 6, 7), 4), (row(9, 5, 9), 3), (row(9, 9, 5), 2), (row(5, 6, 1), -2)]:
            self.assertEqual(worth(data, (told, row(1, 1, 1)), row(0)), pair(expected))
        self.assertEqual(worth(data, (row(0, 0, 0), row(1, "1/2", -1)), row(2)), (0, 1))
        self.assertEqual(worth(data, (row(0, 0, 0), row("2/3", "1/2", -1)), row("5/2")), (1, 4))
        self.assertEqual(worth(data, (row(0, 0, 0), row(1, 1, 1)), row("5/2")), (-1, 2))

    def test_the_amounts_that_were_bought(self):
        data = Data(2, TWO, [])
        taste = (row(5, 3), row("1/2", 4))
        self.assertEqual([worth(data, taste, amounts) for _, amounts in data.buys], [(5, 1), (3, 1)])

    def test_large_numbers(self):
        data = Data(1, [([(BIG, 3)], [(3, BIG)])], [])
        self.assertEqual(worth(data, ([(-BIG, 1)], [(6, BIG)]), [(BIG, 2)]), pair(BIG - BIG - Fraction(6, BIG) + 0))
        self.assertEqual(worth(data, ([(1, BIG)], [(BIG, BIG - 1)]), row(0)),
                         pair(Fraction(1, BIG) - Fraction(BIG, BIG - 1)))

    def test_made_data(self):
        rng = random.Random(5)
        for _ in range(200):
            data = made_data(rng, rng.randint(1, 4), rng.randint(1, 7), 0)
            many = len(data.buys)
            taste = (row(*[Fraction(rng.randint(-9, 9), rng.randint(1, 4)) for _ in range(many)]),
                     row(*[Fraction(rng.randint(-9, 9), rng.randint(1, 4)) for _ in range(many)]))
            before, told = inside(data), copy.deepcopy(taste)
            for basket in [row(*[Fraction(rng.randint(0, 9), 4) for _ in range(data.goods)]), data.buys[-1][1]]:
                passed = list(basket)
                self.assertEqual(worth(data, taste, passed), pair(min(planes_of(data, taste, basket))))
                self.assertEqual(passed, basket)
            self.assertEqual((inside(data), taste), (before, told))


class Judge(unittest.TestCase):
    def test_accepted(self):
        self.assertIs(judge_taste(Data(2, TWO, []), (row(0, 0), row(1, 1))), True)
        self.assertIs(judge_taste(Data(2, TWO, [(0, 1, True)]), (row(5, 3), row("1/2", 4))), True)
        self.assertIs(judge_taste(ONE_BUY, (row(-7), row("1/9"))), True)

    def test_lengths(self):
        data = Data(2, TWO, [])
        for told, weights in [([], []), (row(0), row(1)), (row(0, 0), row(1)), (row(0), row(1, 1)), (row(0, 0), []),
                              (row(0, 0, 0), row(1, 1)), (row(0, 0), row(1, 1, 1)), (row(0, 0, 0), row(1, 1, 1))]:
            self.assertIs(judge_taste(data, (told, weights)), False)

    def test_without_purchases(self):
        for goods in [1, 4]:
            data = Data(goods, [], [])
            self.assertIs(judge_taste(data, ([], [])), True)
            for taste in [(row(0), []), ([], row(1)), (row(0), row(1))]:
                self.assertIs(judge_taste(data, taste), False)

    def test_weights(self):
        for weights, expected in [(row(1, 1), True), (row("1/999", 1), True), (row(0, 1), False), (row(1, 0), False),
                                  (row(-1, 1), False), (row(1, "-1/9"), False)]:
            self.assertIs(judge_taste(Data(2, TWO, []), (row(0, 0), weights)), expected)
        # A weight is not asked where nothing else depends on it.
        self.assertIs(judge_taste(ONE_BUY, (row(0), row(-1))), False)
        self.assertIs(judge_taste(ONE_BUY, (row(0), row(0))), False)

    def test_a_plane_that_says_less(self):
        # The plane of 0 says of what 1 bought its number plus 7/4 times the weight, that of 1 of 0 1 times it.
        data = Data(2, TWO, [])
        for told, weights, expected in [
            (row(0, "7/4"), row(1, 1), True), (row(0, "7000001/4000000"), row(1, 1), False),
            (row(0, "7/2"), row(2, 1), True), (row(0, "7/2"), row("1999999/1000000", 1), False),
            (row(1, 0), row(1, 1), True), (row("1000000000001/1000000000000", 0), row(1, 1), False),
            (row(1, -1), row(1, 2), True), (row(1, -1), row(1, "1999999999999/1000000000000"), False),
        ]:
            self.assertIs(judge_taste(data, (told, weights)), expected, (told, weights))

    def test_links(self):
        equal, more, less = row(0, 0), row(1, 0), row(0, 1)
        for link, told, expected in [
            ((0, 1, False), equal, True), ((0, 1, False), more, True), ((0, 1, False), less, False),
            ((0, 1, True), equal, False), ((0, 1, True), more, True), ((0, 1, True), less, False),
            ((1, 0, False), more, False), ((1, 0, True), less, True), ((0, 1, True), row("1/10000", 0), True),
            ((0, 1, False), row(0, "1/10000"), False),
            ((0, 0, False), more, True), ((0, 0, True), more, False), ((1, 1, True), more, False),
        ]:
            for around in [[], [(0, 0, False)]]:
                data = Data(2, TWO, [*around, link, *around])
                self.assertIs(judge_taste(data, (told, row(4, 4))), expected, (link, told))

    def test_data_with_a_ring(self):
        buys = [(row(1, 2), row(1, 2)), (row(2, 1), row(2, 1))]
        for told in [row(0, 0), row(1, 0), row(0, 1)]:
            self.assertIs(judge_taste(Data(2, buys, []), (told, row(1, 1))), False)
        self.assertIs(judge_taste(Data(2, TWO, [(0, 1, True), (1, 0, False)]), (row(0, 0), row(1, 1))), False)

    def test_made_data(self):
        rng = random.Random(6)
        seen = {True: 0, False: 0}
        for turn in range(3000):
            data = made_data(rng, rng.randint(1, 3), rng.randint(1, 3), turn % 3)
            many = len(data.buys)
            taste = (row(*[Fraction(rng.randint(-3, 3), 2) for _ in range(many)]),
                     row(*[Fraction(rng.randint(-1, 9), 2) for _ in range(many)]))
            before, told = inside(data), copy.deepcopy(taste)
            expected = is_accepted(data, taste)
            self.assertIs(judge_taste(data, taste), expected)
            self.assertEqual((inside(data), taste), (before, told))
            seen[expected] += 1
        self.assertGreater(min(seen.values()), 100)


if __name__ == "__main__":
    unittest.main()
