import random
import unittest

from buybook import steps as module
from buybook.data import Data
from buybook.steps import find_chain, judge_chain, leads, step
from samples import check_functions, inside, leads_of, made_data, row, step_of

# At prices 1 and 1 the purchases 0, 1, 2 spend 4, 4 and 2.
PLAIN = [(row(1, 1), row(2, 2)), (row(1, 1), row(3, 1)), (row(1, 1), row(1, 1))]
# Nothing can be had instead of another: each buys the good that is cheap.
APART = [(row(1, 9, 9), row(1, 0, 0)), (row(9, 1, 9), row(0, 1, 0)), (row(9, 9, 1), row(0, 0, 1))]
EMPTY = Data(2, [], [])


def many_data():
    """Yield made-up data of all sizes, with and without links."""
    rng = random.Random(11)
    for turn in range(400):
        yield made_data(rng, rng.randint(1, 4), rng.randint(1, 7), turn % 13, rng.randint(1, 9))


class Steps(unittest.TestCase):
    def test_names_and_arguments(self):
        check_functions(self, module, {"step": "data i j", "judge_chain": "data chain", "leads": "data",
                                       "find_chain": "data i j"})

    def test_below_equal_above(self):
        data = Data(2, PLAIN, [])
        self.assertIs(step(data, 0, 2), True)
        self.assertIs(step(data, 0, 1), False)
        self.assertIs(step(data, 1, 0), False)
        self.assertIs(step(data, 2, 0), None)

    def test_just_below_and_just_above(self):
        buys = [(row(3, "1/7"), row(1, 1)), (row(1, 1), row(1, "999999999999/1000000000000")),
                (row(1, 1), row(1, "1000000000001/1000000000000")), (row(1, 1), row("1/3", 15))]
        data = Data(2, buys, [])
        self.assertEqual([step(data, 0, j) for j in range(4)], [None, True, None, False])

    def test_links(self):
        for links, expected in [
            ([(2, 0, False)], False), ([(2, 0, True)], True), ([(0, 2, True)], None), ([(2, 1, True)], None),
            ([(2, 0, False), (2, 0, False)], False), ([(2, 0, True), (2, 0, False)], True),
            ([(2, 0, False), (2, 0, True)], True), ([(2, 0, False), (2, 1, True)], False),
            ([(2, 0, True), (2, 0, False), (2, 0, False)], True),
        ]:
            self.assertIs(step(Data(2, PLAIN, links), 2, 0), expected)

    def test_links_beside_costs(self):
        self.assertIs(step(Data(2, PLAIN, [(0, 1, False)]), 0, 1), False)
        self.assertIs(step(Data(2, PLAIN, [(0, 1, True)]), 0, 1), True)
        self.assertIs(step(Data(2, PLAIN, [(0, 2, False)]), 0, 2), True)

    def test_from_a_purchase_to_itself(self):
        for links, expected in [([], None), ([(0, 1, True)], None), ([(1, 1, True)], None), ([(0, 0, False)], False),
                                ([(0, 0, True)], True), ([(0, 0, True), (0, 0, False)], True)]:
            self.assertIs(step(Data(2, PLAIN, links), 0, 0), expected)

    def test_made_data(self):
        for data in many_data():
            before = inside(data)
            for i in range(len(data.buys)):
                for j in range(len(data.buys)):
                    self.assertIs(step(data, i, j), step_of(data, i, j))
            self.assertEqual(inside(data), before)


class Judge(unittest.TestCase):
    def test_one(self):
        for links in [[], [(1, 1, False)], [(1, 1, True)]]:
            self.assertIs(judge_chain(Data(2, PLAIN, links), [1]), False)

    def test_several(self):
        data = Data(2, PLAIN, [])
        self.assertIs(judge_chain(data, [0, 1, 0, 1]), False)
        self.assertIs(judge_chain(data, [0, 2]), True)
        self.assertIs(judge_chain(data, [1, 0, 2]), True)
        self.assertIs(judge_chain(Data(2, PLAIN, [(2, 0, False)]), [0, 2, 0, 1]), True)

    def test_strict_step_first_in_the_middle_and_last(self):
        links = [(0, 1, False), (1, 2, False), (2, 0, False), (0, 0, False)]
        self.assertIs(judge_chain(Data(3, APART, links), [0, 0, 1, 2, 0]), False)
        for at in range(4):
            said = [(i, j, at == k) for k, (i, j, _) in enumerate(links)]
            self.assertIs(judge_chain(Data(3, APART, said), [0, 0, 1, 2, 0]), True)

    def test_a_purchase_with_itself(self):
        self.assertIs(judge_chain(Data(2, PLAIN, []), [0, 0]), None)
        self.assertIs(judge_chain(Data(2, PLAIN, [(0, 0, False)]), [0, 0, 0]), False)
        self.assertIs(judge_chain(Data(2, PLAIN, [(0, 0, True)]), [0, 0]), True)

    def test_no_chain(self):
        data = Data(2, PLAIN, [])
        for chain in [[], [3], [-1], [0, 3], [0, -1], [-3, 1], [3, 0], [0, 1, 7, 0], [2, 0, 1], [0, 2, 1], [0, 1, 2, 1],
                      [1, 1], [2, 2]]:
            self.assertIs(judge_chain(data, chain), None, chain)

    def test_no_purchases(self):
        for chain in [[], [0], [-1], [0, 0]]:
            self.assertIs(judge_chain(EMPTY, chain), None)

    def test_arguments_stay_as_they_were(self):
        data, chain = Data(2, PLAIN, [(2, 0, True)]), [0, 2, 0]
        before = inside(data)
        judge_chain(data, chain)
        self.assertEqual((inside(data), chain), (before, [0, 2, 0]))


class Leads(unittest.TestCase):
    def test_no_purchases_and_one(self):
        self.assertEqual(leads(EMPTY), [])
        self.assertEqual(leads(Data(2, PLAIN[:1], [])), [[False]])
        self.assertEqual(leads(Data(2, PLAIN[:1], [(0, 0, False)])), [[False]])
        self.assertEqual(leads(Data(2, PLAIN[:1], [(0, 0, True)])), [[True]])

    def test_several(self):
        self.assertEqual(leads(Data(2, PLAIN, [])), [[False, False, True], [False, False, True], [None, None, False]])
        self.assertEqual(leads(Data(2, PLAIN, [(2, 0, False)])), [[True] * 3] * 3)
        self.assertEqual(leads(Data(3, APART, [])), [[False, None, None], [None, False, None], [None, None, False]])

    def test_a_strict_link_with_itself_on_the_way(self):
        found = leads(Data(3, APART, [(0, 1, False), (1, 2, False), (1, 1, True)]))
        self.assertEqual(found, [[False, True, True], [None, True, True], [None, None, False]])

    def test_strict_only_by_a_way_round(self):
        # 0 leads to 1 at once, though not strictly; strictly only by 2.
        data = Data(3, APART, [(0, 1, False), (0, 2, False), (2, 1, True)])
        self.assertIs(leads(data)[0][1], True)
        self.assertEqual(find_chain(data, 0, 1), [0, 2, 1])
        # Strictly only by going round a ring that passes 0 a second time.
        data = Data(3, APART, [(0, 1, False), (0, 2, False), (2, 0, True)])
        self.assertIs(leads(data)[0][1], True)
        self.assertEqual(find_chain(data, 0, 1), [0, 2, 0, 1])
        self.assertEqual(find_chain(data, 0, 0), [0, 2, 0])

    def test_made_data(self):
        for data in many_data():
            before = inside(data)
            found = leads(data)
            self.assertEqual(found, leads_of(data))
            for i, line in enumerate(found):
                for j, strict in enumerate(line):
                    self.check_chain(data, i, j, strict, find_chain(data, i, j))
            self.assertEqual(inside(data), before)

    def check_chain(self, data, i, j, strict, chain):
        if strict is None:
            self.assertIs(chain, None)
        else:
            self.assertIs(type(chain), list)
            self.assertEqual((chain[0], chain[-1]), (i, j))
            self.assertIs(judge_chain(data, chain), strict)

    def test_none_and_the_chain_of_one(self):
        data = Data(2, PLAIN, [])
        self.assertIs(find_chain(data, 2, 0), None)
        self.assertEqual(find_chain(data, 2, 2), [2])
        self.assertEqual(find_chain(Data(2, PLAIN, [(2, 2, True)]), 2, 2), [2, 2])

    def test_new_lists_each_time(self):
        data = Data(2, PLAIN, [])
        first, second = leads(data), leads(data)
        first[0].append(None)
        first.append([])
        self.assertEqual(second, leads(data))
        self.assertEqual(len({id(line) for line in second}), 3)
        self.assertIsNot(find_chain(data, 0, 2), find_chain(data, 0, 2))


if __name__ == "__main__":
    unittest.main()
