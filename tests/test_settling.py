import copy
import itertools
import random
import unittest

from buybook import settling as module
from buybook.data import Data
from buybook.errors import NotAllowed
from buybook.likings import likes
from buybook.rings import check
from buybook.settling import settles, settling
from samples import axes, check_functions, inside, made_data, row

GOALS = ["first", "alike", "second"]
TWO = [[2, 3], [3, 2]]
THREE = [[2, 3, 3], [3, 2, 3], [3, 3, 2]]
FOUR = [[2, 3, 3, 3], [3, 2, 3, 3], [3, 3, 2, 3], [3, 3, 3, 2]]
ONE, OTHER = row(1, 0, 0), row(0, 0, 1)


def settles_of(data, first, second, chosen):
    """Return whether questions settle two baskets by the words of point 38."""
    kinds = [[[(i, j, True)], [(i, j, False), (j, i, False)], [(j, i, True)]] for i, j in chosen]
    for answers in itertools.product(*kinds):
        answered = Data(data.goods, data.buys, data.links + [link for links in answers for link in links])
        if check(answered)[0] != "ring":
            if sum(likes(answered, first, second, goal)[0] == "can" for goal in GOALS) != 1:
                return False
    return True


class Settling(unittest.TestCase):
    def assert_settling(self, data, first, second, questions, expected=None):
        """Each set settles or does not by the words of point 38, and so the least ones are told."""
        passed = copy.deepcopy((inside(data), first, second, questions))
        sets = [list(chosen) for size in range(len(questions) + 1)
                for chosen in itertools.combinations(range(len(questions)), size)]
        found = {tuple(chosen): settles_of(data, first, second, [questions[k] for k in chosen]) for chosen in sets}
        for chosen in sets:
            told = settles(data, first, second, questions, chosen)
            self.assertIs(told, found[tuple(chosen)])
        least = [chosen for chosen in sets if found[tuple(chosen)] and not any(
            found[fewer] for size in range(len(chosen)) for fewer in itertools.combinations(chosen, size))]
        told = settling(data, first, second, questions)
        self.assertEqual(told, least)
        self.assertEqual((inside(data), first, second, questions), passed)
        if expected is not None:
            self.assertEqual(told, expected)
        return told

    def test_names_and_arguments(self):
        check_functions(self, module, {"settles": "data first second questions chosen",
                                       "settling": "data first second questions"})

    def test_no_questions(self):
        self.assert_settling(axes(*TWO), row(1, 0), row(0, 1), [], [])
        self.assert_settling(axes(*TWO), row(1, 1), row(0, 1), [], [[]])
        self.assert_settling(axes(*TWO), row(1, 1), row(1, 1), [], [[]])
        self.assert_settling(Data(2, [], []), row(1, 0), row(0, 1), [], [])
        self.assert_settling(Data(2, [], []), row(1, 0), row(0, 0), [], [[]])
        # Two of the three goals can be had, whichever.
        self.assert_settling(axes(*TWO), row(1, 0), row(0, "2/3"), [], [])
        self.assert_settling(axes(*TWO, links=[(1, 0, False)]), row(1, 0), row(0, 1), [], [])

    def test_one_question(self):
        self.assert_settling(axes(*TWO), row(1, 0), row(0, 1), [(0, 1)], [[0]])
        self.assert_settling(axes(*TWO), row(1, 0), row(0, 1), [(1, 0)], [[0]])
        self.assert_settling(axes(*TWO), row(0, 1), row(1, 0), [(1, 0)], [[0]])
        self.assert_settling(axes(*TWO), row(2, 0), row(0, 1), [(0, 1)], [])
        self.assert_settling(axes(*THREE), ONE, OTHER, [(0, 1)], [])
        self.assert_settling(axes(*THREE), row(1, 1, 0), row(1, 0, 0), [(0, 1)], [[]])

    def test_either_of_two(self):
        self.assert_settling(axes(*TWO), row(1, 0), row(0, 1), [(0, 1), (1, 0)], [[0], [1]])
        self.assert_settling(axes(*TWO), row(1, 0), row(0, 1), [(0, 1), (0, 1)], [[0], [1]])
        self.assert_settling(axes(*TWO), row(1, 0), row(0, "1/2"), [(0, 1), (1, 0)], [[]])

    def test_one_of_two(self):
        self.assert_settling(axes(*THREE), ONE, OTHER, [(0, 1), (0, 2)], [[1]])
        self.assert_settling(axes(*THREE), ONE, OTHER, [(2, 0), (1, 2)], [[0]])

    def test_both_of_two(self):
        # Each answer leaves open whether the baskets are alike, as long as the other is not given.
        links = [(0, 1, False), (1, 2, False)]
        self.assert_settling(axes(*THREE, links=links), ONE, OTHER, [(0, 1), (1, 2)], [[0, 1]])
        self.assert_settling(axes(*THREE, links=links), ONE, OTHER, [(2, 1), (1, 0)], [[0, 1]])
        self.assert_settling(axes(*THREE, links=links), ONE, OTHER, [(0, 1), (1, 0)], [])
        self.assert_settling(axes(*THREE, links=[(0, 1, True), (1, 2, False)]), ONE, OTHER, [(0, 1), (1, 2)], [[]])

    def test_neither_of_two(self):
        # If 0 and 2 are both better than 1, nothing is said of them.
        self.assert_settling(axes(*THREE), ONE, OTHER, [(0, 1), (1, 2)], [])
        self.assert_settling(axes(*FOUR), row(1, 0, 0, 0), row(0, 1, 0, 0), [(2, 3), (0, 2)], [])

    def test_answers_with_which_the_data_have_a_ring_do_not_count(self):
        # Only that 0 is better than 1 fits the data, and then the first basket is better than the second.
        data = axes([2, 1], [3, 2])
        self.assert_settling(data, row(1, 0), row(0, 1), [(0, 1)], [[]])
        self.assert_settling(axes(*TWO, links=[(0, 1, False)]), row(1, 0), row(0, 1), [(1, 0)], [[0]])
        # That they are as good as each other contradicts the strict link; that 1 is better, both.
        for links in [[(0, 1, True)], [(0, 1, False), (1, 2, True), (2, 0, False)]]:
            data = axes(*THREE, links=links)
            self.assert_settling(data, ONE, row(0, 1, 0), [(0, 1), (1, 2)])

    def test_rings(self):
        for data in [axes([2, 1], [1, 2]), axes(*TWO, links=[(1, 1, True)])]:
            for questions in [[], [(0, 1)], [(0, 1), (1, 0)]]:
                self.assert_settling(data, row(1, 0), row(0, 1), questions, [[]])

    def test_too_many_questions(self):
        for data in [axes(*TWO), axes([2, 1], [1, 2])]:
            for second in [row(0, 1), row(1, 0)]:
                for many in [3, 4]:
                    with self.assertRaises(NotAllowed):
                        settling(data, row(1, 0), second, [(0, 1), (1, 0), (0, 1), (0, 1)][:many])
        # How many questions there are does not matter to a set that is given.
        self.assertIs(settles(axes(*TWO), row(1, 0), row(0, 1), [(0, 1)] * 4, [3]), True)
        self.assertIs(settles(axes(*TWO), row(1, 0), row(0, 1), [(0, 1)] * 4, []), False)

    def test_made_data(self):
        rng = random.Random(18)
        seen = {}
        for turn in range(60):
            many = rng.randint(2, 4)
            links = [(*rng.sample(range(many), 2), rng.random() < 0.3) for _ in range(turn % 3)]
            data = axes(*[[2 if k == g else rng.choice([2, 3, 3, 3]) for g in range(many)] for k in range(many)],
                        links=links)
            baskets = [data.buys[k][1] for k in rng.sample(range(many), 2)]
            if turn % 5 == 0:
                data = made_data(rng, many, 2, 0)
            questions = [tuple(rng.sample(range(len(data.buys)), 2)) for _ in range(rng.randint(0, 2))]
            told = self.assert_settling(data, *baskets, questions)
            seen[str(told)] = seen.get(str(told), 0) + 1
        self.assertGreaterEqual(len(seen), 3, seen)

    def test_new_lists_each_time(self):
        first = settling(axes(*TWO), row(1, 0), row(0, 1), [(0, 1), (1, 0)])
        first[0].append(7)
        first.pop()
        self.assertEqual(settling(axes(*TWO), row(1, 0), row(0, 1), [(0, 1), (1, 0)]), [[0], [1]])


if __name__ == "__main__":
    unittest.main()
