import itertools
import random
import unittest

from buybook import conflicts as module
from buybook.conflicts import conflicts, part
from buybook.data import Data
from buybook.errors import NotAllowed
from samples import check_functions, inside, leads_of, made_data, row

# Each buys the good that is cheap, so that nothing leads to anything.
APART = [(row(1, 9, 9), row(1, 0, 0)), (row(9, 1, 9), row(0, 1, 0)), (row(9, 9, 1), row(0, 0, 1))]
# At the same prices 0 spent most and 2 least.
FALLING = [(row(1, 2), row(3, 3)), (row(1, 2), row(2, 2)), (row(1, 2), row(1, 1))]


def part_of(data, things):
    """Return the data of a set of things, by the words of point 19."""
    many = len(data.buys)
    chosen = [thing for thing in things if thing < many]
    links = [data.links[thing - many] for thing in things if thing >= many]
    return Data(data.goods, [data.buys[i] for i in chosen],
                [(chosen.index(i), chosen.index(j), strict) for i, j, strict in links if {i, j} <= set(chosen)])


def conflicts_of(data):
    """Return the least refuted and the greatest standing sets, by the words of point 19."""
    things = range(len(data.buys) + len(data.links))
    sets = [frozenset(told) for many in range(len(things) + 1) for told in itertools.combinations(things, many)]
    refuted = {}
    for told in sets:
        table = leads_of(part_of(data, sorted(told)))
        refuted[told] = any(table[i][i] for i in range(len(table)))
    least = [told for told in sets if refuted[told] and not any(refuted[other] for other in sets if other < told)]
    greatest = [told for told in sets if not refuted[told] and all(refuted[other] for other in sets if other > told)]
    order = [sorted((sorted(told) for told in found), key=lambda told: (len(told), told)) for found in (least, greatest)]
    return tuple(order)


class Part(unittest.TestCase):
    def test_names_and_arguments(self):
        check_functions(self, module, {"part": "data things", "conflicts": "data"})

    def assert_part(self, data, things, buys, links):
        passed, before = list(things), inside(data)
        found = part(data, passed)
        self.assertIs(type(found), Data)
        self.assertEqual(inside(found), (data.goods, [data.buys[i] for i in buys], links), things)
        self.assertEqual((passed, inside(data)), (things, before))

    def test_renumbered(self):
        data = Data(3, APART, [(2, 0, True), (0, 1, False), (2, 2, False), (1, 2, True), (2, 0, False)])
        self.assert_part(data, [], [], [])
        self.assert_part(data, [0, 1, 2, 3, 4, 5, 6, 7], [0, 1, 2], data.links)
        self.assert_part(data, [0, 1, 2], [0, 1, 2], [])
        self.assert_part(data, [3, 4, 5, 6, 7], [], [])
        self.assert_part(data, [0, 2, 3, 4, 5, 6, 7], [0, 2], [(1, 0, True), (1, 1, False), (1, 0, False)])
        self.assert_part(data, [1, 2, 3, 4, 5, 6, 7], [1, 2], [(1, 1, False), (0, 1, True)])
        self.assert_part(data, [2, 5], [2], [(0, 0, False)])
        self.assert_part(data, [0, 2, 7], [0, 2], [(1, 0, False)])
        self.assert_part(data, [0, 4, 5], [0], [])

    def test_no_things(self):
        self.assert_part(Data(2, [], []), [], [], [])

    def test_more_than_six_things(self):
        rng = random.Random(4)
        for turn in range(100):
            data = made_data(rng, 2, 7, turn % 13)
            things = sorted(rng.sample(range(7 + turn % 13), rng.randint(0, 7)))
            expected = part_of(data, things)
            self.assert_part(data, things, [thing for thing in things if thing < 7], expected.links)

    def test_lists_are_copied(self):
        data = Data(3, APART, [(0, 0, False)])
        before = inside(data)
        found = part(data, [0, 1, 3])
        found.buys[0][0].clear()
        found.buys[1][1].clear()
        found.links.clear()
        self.assertEqual(inside(data), before)


class Conflicts(unittest.TestCase):
    def assert_conflicts(self, data, least, greatest):
        before = inside(data)
        found = conflicts(data)
        self.assertIs(type(found), tuple)
        self.assertEqual(found, (least, greatest))
        self.assertEqual(inside(data), before)
        self.assertEqual(len({id(told) for told in [*found[0], *found[1]]}), len(least) + len(greatest))

    def test_no_things(self):
        self.assert_conflicts(Data(1, [], []), [], [[]])

    def test_all_stand(self):
        self.assert_conflicts(Data(3, APART, []), [], [[0, 1, 2]])
        self.assert_conflicts(Data(3, APART, [(0, 1, True), (1, 2, False)]), [], [[0, 1, 2, 3, 4]])
        self.assert_conflicts(Data(3, APART[:1], []), [], [[0]])

    def test_a_single_purchase(self):
        self.assert_conflicts(Data(3, APART[:1], [(0, 0, True)]), [[0, 1]], [[0], [1]])
        self.assert_conflicts(Data(3, APART[:2], [(1, 1, True), (1, 1, False)]), [[1, 2]], [[0, 1, 3], [0, 2, 3]])

    def test_two_purchases_that_contradict(self):
        buys = [(row(1, 2), row(1, 2)), (row(2, 1), row(2, 1)), (row(1, 1), row(1, 1))]
        self.assert_conflicts(Data(2, buys[:2], []), [[0, 1]], [[0], [1]])
        self.assert_conflicts(Data(2, buys, []), [[0, 1]], [[0, 2], [1, 2]])

    def test_several_that_overlap(self):
        # Things 3, 4, 5: each link says that one who spent less was as well off.
        data = Data(2, FALLING, [(1, 0, False), (2, 1, False), (2, 0, False)])
        self.assert_conflicts(data, [[0, 1, 3], [0, 2, 5], [1, 2, 4]],
                              [[0, 1, 2], [0, 1, 4, 5], [0, 2, 3, 4], [0, 3, 4, 5], [1, 2, 3, 5], [1, 3, 4, 5],
                               [2, 3, 4, 5]])

    def test_made_data(self):
        rng = random.Random(9)
        many = {"least": 0, "greatest": 0}
        for turn in range(150):
            things = rng.randint(0, 6)
            bought = rng.randint(min(things, 1), min(things, 4))
            data = made_data(rng, rng.randint(1, 3), bought, things - bought)
            least, greatest = conflicts_of(data)
            self.assert_conflicts(data, least, greatest)
            many["least"] = max(many["least"], len(least))
            many["greatest"] = max(many["greatest"], len(greatest))
        self.assertGreater(min(many.values()), 2)

    def test_six_and_seven(self):
        for buys, links in [(6, 0), (3, 3), (1, 5)]:
            data = made_data(random.Random(1), 2, buys, links)
            self.assert_conflicts(data, *conflicts_of(data))
        for buys, links in [(7, 0), (7, 12), (1, 6), (4, 3)]:
            with self.assertRaises(NotAllowed):
                conflicts(made_data(random.Random(1), 2, buys, links))


if __name__ == "__main__":
    unittest.main()
