import random
import unittest

from buybook import rings as module
from buybook.data import Data
from buybook.rings import check
from buybook.steps import judge_chain
from buybook.tastes import judge_taste
from samples import check_functions, inside, leads_of, made_data, row

# Each buys the good that is cheap, so that nothing leads to anything.
APART = [(row(1, 9, 9), row(1, 0, 0)), (row(9, 1, 9), row(0, 1, 0)), (row(9, 9, 1), row(0, 0, 1))]


class RingCase(unittest.TestCase):
    def assert_checked(self, data, expected):
        """Check tells what is expected, with a taste or a ring that its judge accepts."""
        before = inside(data)
        found = check(data)
        self.assertIs(type(found), tuple)
        self.assertEqual(len(found), 2)
        kind, told = found
        self.assertEqual(kind, expected)
        if kind == "taste":
            self.assertIs(type(told), tuple)
            self.assertEqual([type(part) for part in told], [list, list])
            self.assertIs(judge_taste(data, told), True)
        else:
            self.assertIs(type(told), list)
            self.assertIs(judge_chain(data, told), True)
            self.assertEqual(told[0], told[-1])
            self.assertGreaterEqual(len(told), 2)
        self.assertEqual(inside(data), before)
        return told


class Check(RingCase):
    def test_names_and_arguments(self):
        check_functions(self, module, {"check": "data"})

    def test_examples_of_the_document(self):
        buys = [([(1, 1), (2, 1)], [(2, 1), (1, 1)]), ([(2, 1), (1, 1)], [(1, 1), (2, 1)])]
        self.assert_checked(Data(2, buys, []), "taste")
        buys = [([(1, 1), (2, 1)], [(1, 1), (2, 1)]), ([(2, 1), (1, 1)], [(2, 1), (1, 1)])]
        self.assert_checked(Data(2, buys, []), "ring")

    def test_without_purchases(self):
        for goods in [1, 2, 4]:
            self.assertEqual(check(Data(goods, [], [])), ("taste", ([], [])))

    def test_one_purchase(self):
        for links, expected in [([], "taste"), ([(0, 0, False)], "taste"), ([(0, 0, True)], "ring"),
                                ([(0, 0, False), (0, 0, True), (0, 0, False)], "ring")]:
            self.assert_checked(Data(3, APART[:1], links), expected)

    def test_links(self):
        for links, expected in [
            ([(0, 1, False)], "taste"), ([(0, 1, True)], "taste"), ([(0, 1, False), (1, 0, False)], "taste"),
            ([(0, 1, True), (1, 0, False)], "ring"), ([(0, 1, False), (1, 0, True)], "ring"),
            ([(0, 1, True), (1, 2, True)], "taste"), ([(2, 1, True), (1, 0, True), (2, 0, False)], "taste"),
            ([(0, 1, False), (1, 2, False), (2, 0, False)], "taste"),
            ([(0, 1, False), (1, 2, True), (2, 0, False)], "ring"),
            ([(0, 1, False), (1, 2, False), (2, 0, False), (1, 1, True)], "ring"),
            ([(0, 1, False), (0, 1, False), (0, 1, True)], "taste"),
            ([(2, 2, True)], "ring"), ([(2, 2, False)], "taste"),
        ]:
            self.assert_checked(Data(3, APART, links), expected)

    def test_purchases_that_are_alike(self):
        for many in [2, 3, 7]:
            buys = [(row(2, 3), row(1, 1))] * many
            self.assert_checked(Data(2, buys, []), "taste")
            self.assert_checked(Data(2, buys, [(0, 1, False)]), "taste")
            self.assert_checked(Data(2, buys, [(0, 1, True)]), "ring")

    def test_the_same_prices(self):
        for amounts, expected in [
            ([row(2, 2), row(3, 1), row(0, 4)], "taste"), ([row(2, 2), row(1, 1), row(5, 4)], "taste"),
            ([row(0, 1), row(0, 2), row(0, 2), row(1, 1), row(4, 0)], "taste"),
        ]:
            self.assert_checked(Data(2, [(row(1, 1), told) for told in amounts], []), expected)
        buys = [(row(1, 1), row(2, 2)), (row(1, 1), row(1, 1))]
        self.assert_checked(Data(2, buys, [(1, 0, False)]), "ring")
        self.assert_checked(Data(2, buys, [(0, 1, True)]), "taste")

    def test_costs_that_are_just_equal(self):
        # Each could have had what the other bought for just the same money.
        self.assert_checked(Data(2, [(row(1, 1), row(1, 2)), (row(2, 2), row(2, 1))], []), "taste")
        # 0 could have had it for just the same money, 1 for less.
        first, second = (row(1, 2), row(0, 2)), (row(2, 1), row(4, 0))
        self.assert_checked(Data(2, [first, second], []), "ring")
        self.assert_checked(Data(2, [(row(1, 2), row(0, "1999999/1000000")), second], []), "taste")
        # 0 could have had it for just the same money, 1 only for more.
        second = (row("1/4", 2), row(4, 0))
        for links, expected in [([], "taste"), ([(1, 0, False)], "taste"), ([(1, 0, True)], "ring"),
                                ([(0, 1, True)], "taste"), ([(0, 1, True), (1, 0, False)], "ring")]:
            self.assert_checked(Data(2, [first, second], links), expected)
        self.assert_checked(Data(2, [(row(1, 2), row("1/1000000", 2)), second], [(1, 0, False)]), "ring")

    def test_large_classes(self):
        # All spend the same at the same prices: one class, and no step in it is strict.
        buys = [(row(1, 1, 2), row(k, 6 - k, 0)) for k in range(7)]
        told = self.assert_checked(Data(3, buys, []), "taste")
        self.assertEqual(len(set(told[0])), 1)
        # Two such classes, the first of which leads to the second, and the other way round in the list.
        buys = [(row(1, 1), row(k, 2 - k)) for k in range(3)] + [(row(1, 1), row(k, 5 - k)) for k in range(3)]
        for order in [buys, buys[::-1], buys[1:] + buys[:1]]:
            self.assert_checked(Data(2, order, []), "taste")

    def test_a_ring_through_three_and_more(self):
        for many in [3, 4, 5, 6, 7]:
            buys = [(row(1, 9 + k), row(k + 1, 0)) for k in range(many)]
            # From the last one down each step is strict; a link from the least one closes the ring.
            self.assert_checked(Data(2, buys, []), "taste")
            told = self.assert_checked(Data(2, buys, [(0, many - 1, False)]), "ring")
            self.assertIn(many - 1, told)

    def test_a_ring_without_links_through_three(self):
        # Each could have had what the next one bought, which costs less, but not what the one behind that did.
        buys = [(row(3, 2, 9), row(1, 0, 0)), (row(9, 3, 2), row(0, 1, 0)), (row(2, 9, 3), row(0, 0, 1))]
        told = self.assert_checked(Data(3, buys, []), "ring")
        self.assertEqual(sorted(set(told)), [0, 1, 2])
        buys[2] = (row("300001/100000", 9, 3), row(0, 0, 1))
        self.assert_checked(Data(3, buys, []), "taste")

    def test_a_weight_far_above_one(self):
        # At the prices of 1 the amounts of 0 cost only a millionth more, though they are worth more by 9.
        buys = [(row(1, 9), row(0, "1000001/1000000")), (row(1, 1), row(1, 0))]
        self.assert_checked(Data(2, buys, []), "taste")
        self.assert_checked(Data(2, buys[::-1], []), "taste")

    def test_made_data(self):
        rng = random.Random(8)
        seen = {"taste": 0, "ring": 0}
        for turn in range(1500):
            data = made_data(rng, rng.randint(1, 4), rng.randint(1, 7), turn % 4, rng.randint(2, 9))
            table = leads_of(data)
            expected = "ring" if any(table[i][i] for i in range(len(table))) else "taste"
            self.assert_checked(data, expected)
            seen[expected] += 1
        self.assertGreater(min(seen.values()), 300)

    def test_new_lists_each_time(self):
        for links in [[], [(0, 0, True)]]:
            data = Data(3, APART, links)
            first, second = check(data)[1], check(data)[1]
            for part in (first, *first):
                if isinstance(part, list):
                    part.clear()
            self.assertEqual(second, check(data)[1])


if __name__ == "__main__":
    unittest.main()
