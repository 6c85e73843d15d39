import copy
import random
import unittest
from fractions import Fraction

from buybook import likings as module
from buybook.data import Data
from buybook.likings import judge_liking, judge_refusal, likes
from buybook.steps import judge_chain
from samples import axes, check_functions, cost_of, inside, made_data, numbers, pair, row

LITTLE = Fraction(1, 10 ** 12)
GOALS = ["first", "alike", "second"]
EMPTY = Data(2, [], [])
# 4 were spent on the one purchase.
ONE_BUY = Data(2, [(row(1, 1), row(2, 2))], [])


def points_of(data, first, second):
    return [numbers(amounts) for _, amounts in data.buys] + [numbers(first), numbers(second)]


def links_hold(links, told):
    return all(told[i] > told[j] or (told[i] == told[j] and not strict) for i, j, strict in links)


def liking_fits(data, first, second, goal, liking):
    """Return whether a liking is accepted by the words of point 35."""
    told, weights, slopes = numbers(liking[0]), numbers(liking[1]), [numbers(part) for part in liking[2]]
    points, many = points_of(data, first, second), len(data.buys)
    if [len(told), len(weights), len(slopes)] != [many + 2, many, 2]:
        return False
    if any(len(part) != data.goods for part in slopes) or min([*weights, *slopes[0], *slopes[1]]) <= 0:
        return False
    for j, point in enumerate(points):
        for i, (prices, amounts) in enumerate(data.buys):
            if told[i] + weights[i] * (cost_of(prices, row(*point)) - cost_of(prices, amounts)) < told[j]:
                return False
        for b in range(2):
            more = [x - y for x, y in zip(point, points[many + b])]
            if told[many + b] + sum(s * d for s, d in zip(slopes[b], more)) < told[j]:
                return False
    a, b = told[-2:]
    return links_hold(data.links, told) and {"first": a > b, "alike": a == b, "second": a < b}[goal]


def refusal_fits(data, first, second, goal, refusal):
    """Return whether a refusal is accepted by the words of point 36."""
    pairs, links, goals = [numbers(part) for part in refusal[0]], numbers(refusal[1]), numbers(refusal[2])
    points, many = points_of(data, first, second), len(data.buys)
    if [len(part) for part in pairs] != [many + 2] * (many + 2) or len(links) != len(data.links):
        return False
    if len(goals) != (2 if goal == "alike" else 1) or min([*sum(pairs, []), *links, *goals]) < 0:
        return False
    better = {"first": [many], "second": [many + 1], "alike": [many + 1, many]}[goal]
    for k in range(many + 2):
        out = sum(pairs[k]) + sum(p for p, (i, _, _) in zip(links, data.links) if i == k)
        come = sum(part[k] for part in pairs) + sum(p for p, (_, j, _) in zip(links, data.links) if j == k)
        if k >= many:
            out += sum(p for p, place in zip(goals, better) if place == k)
            come += sum(p for p, place in zip(goals, better) if place != k)
        if out != come:
            return False
    rests = []
    for i, (prices, amounts) in enumerate(data.buys):
        together = sum(p * cost_of(prices, row(*point)) for p, point in zip(pairs[i], points))
        rests.append(sum(pairs[i]) * cost_of(prices, amounts) - together)
    for b in (many, many + 1):
        for g in range(data.goods):
            together = sum(p * point[g] for p, point in zip(pairs[b], points))
            rests.append(sum(pairs[b]) * points[b][g] - together)
    strict = [p for p, (_, _, kind) in zip(links, data.links) if kind]
    return min(rests) >= 0 and (max(rests) > 0 or any(strict) or (goal != "alike" and goals[0] > 0))


def refusal_of(many, prices, links, goals):
    """Return a refusal with the prices of some pairs, the others 0."""
    return ([[pair(prices.get((i, j), 0)) for j in range(many)] for i in range(many)], row(*links), row(*goals))


class LikingsCase(unittest.TestCase):
    def assert_liked(self, data, first, second, expected=None):
        """Of each goal a certificate is told; expected are the goals that can be had."""
        can = []
        for goal in GOALS:
            passed = copy.deepcopy((inside(data), first, second))
            kind, told = likes(data, first, second, goal)
            self.assertEqual((inside(data), first, second), passed)
            if kind == "ring":
                self.assertIs(judge_chain(data, told), True)
                self.assertEqual(told[0], told[-1])
                self.assertGreaterEqual(len(told), 2)
                continue
            judge, fits = {"can": (judge_liking, liking_fits), "cannot": (judge_refusal, refusal_fits)}[kind]
            self.assertIs(judge(data, first, second, goal, told), True)
            self.assertTrue(fits(data, first, second, goal, told))
            self.assertEqual([type(told), *map(type, told)], [tuple, list, list, list])
            self.assertTrue(all(number == pair(Fraction(*number)) for number in told[1]))
            if kind == "can":
                can.append(goal)
        if expected is not None:
            self.assertEqual(can, expected.split())
        return can


class Likes(LikingsCase):
    def test_names_and_arguments(self):
        check_functions(self, module, {
            "judge_liking": "data first second goal liking", "judge_refusal": "data first second goal refusal",
            "likes": "data first second goal"})

    def test_no_purchases(self):
        for first, second, expected in [
            ((1, 1), (1, 1), "alike"), ((2, 1), (1, 1), "first"), ((1, 1), (1, 1 + LITTLE), "second"),
            ((2, 1), (1, 2), "first alike second"), ((0, 0), (0, 0), "alike"), ((0, 0), (LITTLE, 0), "second"),
            ((0, 1), (0, 0), "first"), ((10 ** 12, 0), (0, LITTLE), "first alike second"),
        ]:
            self.assert_liked(EMPTY, row(*first), row(*second), expected)
        self.assert_liked(Data(1, [], []), row(3), row(2), "first")
        self.assert_liked(Data(4, [], []), row(1, 2, 3, 4), row(4, 3, 2, 1), "first alike second")

    def test_what_was_bought_and_another(self):
        for other, expected in [((1, 2), "first"), ((2, 2), "alike"), ((1, 3), "first alike"), ((0, 0), "first"),
                                ((1, 3 + LITTLE), "first alike second"), ((1, 3 - LITTLE), "first"),
                                ((0, 5), "first alike second"), ((2, 3), "second"), ((3, 2), "second")]:
            self.assert_liked(ONE_BUY, row(2, 2), row(*other), expected)
            swapped = {"first": "second", "second": "first", "alike": "alike"}
            self.assert_liked(ONE_BUY, row(*other), row(2, 2),
                              " ".join(goal for goal in GOALS if swapped[goal] in expected))

    def test_baskets_on_either_side_of_what_was_bought(self):
        # The first costs less than what was bought or just as much, the second holds more than it, or costs more.
        for first, second, expected in [((1, 2), (2, 3), "second"), ((1, 3), (2, 3), "second"),
                                        ((1, 3), (3, 1), "first alike second"), ((1, 2), (5, 0), "first alike second"),
                                        ((1, 3), (3, 2), "second"), ((0, 3), (1, 3), "second")]:
            self.assert_liked(ONE_BUY, row(*first), row(*second), expected)

    def test_mixtures(self):
        # (1, 3) and (3, 1) were each as good as the other, so their middle is at least as good.
        apart = [(row(3, 1), row(1, 3)), (row(1, 3), row(3, 1))]
        same = Data(2, apart, [(0, 1, False), (1, 0, False)])
        self.assert_liked(same, row(2, 2), row(1, 3), "first alike")
        self.assert_liked(same, row(2, 2 - LITTLE), row(1, 3), "first alike second")
        self.assert_liked(same, row(2, 2 + LITTLE), row(1, 3), "first")
        self.assert_liked(same, row(1, 3), row(3, 1), "alike")
        self.assert_liked(same, row("5/3", "7/3"), row(3, 1), "first alike")
        # With the first better than the second, the middle is better than the second.
        better = Data(2, apart, [(0, 1, True)])
        self.assert_liked(better, row(2, 2), row(3, 1), "first")
        self.assert_liked(better, row(2, 2), row(1, 3), "first alike second")
        self.assert_liked(better, row(3, 1), row(1, 3), "second")
        # Both baskets have another one in their middle.
        self.assert_liked(Data(2, [(row(1, 1), row(2, 2))], []), row(1, 3), row(3, 1), "first alike second")
        self.assert_liked(same, row(1, 3), row("3/2", "5/2"), "alike second")

    def test_links(self):
        apart = [[2, 3], [3, 2]]
        for links, expected in [
            ([], "first alike second"), ([(0, 1, False)], "first alike"), ([(0, 1, True)], "first"),
            ([(1, 0, False)], "alike second"), ([(1, 0, True)], "second"), ([(0, 1, False), (1, 0, False)], "alike"),
            ([(0, 0, False)], "first alike second"), ([(0, 1, False), (0, 1, True), (0, 0, False)], "first"),
        ]:
            self.assert_liked(axes(*apart, links=links), row(1, 0), row(0, 1), expected)
            # Of the second good, 2/3 cost just what was spent on the first.
            self.assert_liked(axes(*apart, links=links), row(1, 0), row(0, "2/3"),
                              "first" if links and links[0][:2] == (0, 1) else "first alike")

    def test_through_several_purchases(self):
        chain = axes([2, 1, 3], [3, 2, 2], [3, 3, 2])
        self.assert_liked(chain, row(1, 0, 0), row(0, 0, 1), "first")
        self.assert_liked(chain, row(0, 1, 0), row(0, 0, 1), "first alike")
        self.assert_liked(chain, row(1, LITTLE, 0), row(0, 0, "1/2"), "first")
        self.assert_liked(chain, row(0, 0, 0), row(0, 0, 1), "second")

    def test_rings(self):
        for data in [axes([2, 1], [1, 2]), axes([2, 3], [3, 2], links=[(1, 1, True)])]:
            self.assert_liked(data, row(1, 0), row(0, 1), "")
            for goal in GOALS:
                self.assertEqual(likes(data, row(1, 0), row(1, 0), goal)[0], "ring")

    def test_made_data(self):
        rng = random.Random(15)
        seen = {}
        for turn in range(250):
            data = made_data(rng, rng.randint(1, 4), rng.randint(0, 4), turn % 3, rng.randint(2, 6))
            baskets = []
            for _ in range(2):
                basket = row(*[rng.randint(0, 4) for _ in range(data.goods)])
                if data.buys and rng.random() < 0.5:
                    one, other = numbers(rng.choice(data.buys)[1]), numbers(rng.choice(data.buys)[1])
                    basket = row(*[(x + y) / 2 for x, y in zip(one, other)])
                baskets.append(basket)
            can = " ".join(self.assert_liked(data, *baskets))
            seen[can] = seen.get(can, 0) + 1
        self.assertGreaterEqual(len(seen), 5, seen)

    def test_seven_purchases_of_four_goods(self):
        rng = random.Random(16)
        for digits in [1, 12]:
            prices = [[rng.randint(1, 10 ** digits) for _ in range(4)] for _ in range(7)]
            # Bought as by a taste whose worth is the product of the amounts: a fourth of the money for each good.
            buys = [(row(*told), row(*[Fraction(k + 5, price) for price in told])) for k, told in enumerate(prices)]
            data = Data(4, buys, [])
            first = row(*[Fraction(11, price) for price in prices[0]])
            self.assert_liked(data, first, buys[0][1], "first")
            self.assert_liked(data, buys[3][1], row(*[x / 2 for x in numbers(buys[3][1])]), "first")
            self.assert_liked(data, first, row(*[rng.randint(1, 9) for _ in range(4)]))

    def test_new_lists_each_time(self):
        for goal in ["first", "second"]:
            first, second = [likes(ONE_BUY, row(2, 2), row(1, 2), goal) for _ in range(2)]
            for part in [*first[1][0], *first[1][2], *first[1]]:
                if isinstance(part, list):
                    part.clear()
            self.assertEqual(second, likes(ONE_BUY, row(2, 2), row(1, 2), goal))


class Likings(unittest.TestCase):
    def assert_judged(self, expected, data, first, second, goals, told):
        """A liking is accepted for just these goals if it is expected to be, otherwise for none."""
        for goal in GOALS:
            passed = copy.deepcopy((inside(data), first, second, told))
            found = judge_liking(data, first, second, goal, told)
            self.assertEqual((inside(data), first, second, told), passed)
            self.assertIs(found, expected and goal in goals.split())
            self.assertIs(found, liking_fits(data, first, second, goal, told))

    def test_equality_everywhere(self):
        """Worth the sum of both goods, and with weights and slopes of 1 each plane says just that of each point."""
        parts = [Fraction(x) for x in (4, 5, 4, 1, 1, 1, 1, 1)]
        for k, more in [(None, 0), (3, LITTLE), (4, -LITTLE), (5, LITTLE), (6, LITTLE), (7, -LITTLE), *[
                (k, sign * LITTLE) for k in range(3) for sign in (1, -1)],
                (3, -LITTLE), (4, LITTLE), (5, -LITTLE), (6, -LITTLE), (7, LITTLE)]:
            told = [x + more * (j == k) for j, x in enumerate(parts)]
            liking = (row(*told[:3]), row(told[3]), [row(*told[4:6]), row(*told[6:])])
            accepted = k is None or (k, more > 0) in [(3, True), (4, False), (5, True), (6, True), (7, False)]
            self.assert_judged(accepted, ONE_BUY, row(3, 2), row(1, 3), "first", liking)
        shifted = (row(-4, -3, -4), row(1), [row(1, 1), row(1, 1)])
        self.assert_judged(True, ONE_BUY, row(3, 2), row(1, 3), "first", shifted)
        self.assert_judged(True, ONE_BUY, row(1, 3), row(3, 2), "second", (row(4, 4, 5), row(1), [row(1, 1)] * 2))
        self.assert_judged(True, ONE_BUY, row(1, 3), row(4, 0), "alike", (row(4, 4, 4), row(1), [row(1, 1)] * 2))

    def test_goals(self):
        slopes = [row(20, 1), row(1, 20)]
        for last, goals in [((4, 4), "alike"), ((4 + LITTLE, 4), "first"), ((4, 4 + LITTLE), "second")]:
            self.assert_judged(True, ONE_BUY, row(1, 3), row(3, 1), goals, (row(10, *last), row(1), slopes))
            told = (row(*last), [], [row(20, 1), row(1, 20)])
            self.assert_judged(True, EMPTY, row(1, 3), row(3, 1), goals, told)

    def test_weights_and_slopes_above_zero(self):
        for weight, first, second, accepted in [
            (1, (20, 1), (1, 20), True), (LITTLE, (20, LITTLE), (LITTLE, 20), True), (0, (20, 1), (1, 20), False),
            (-LITTLE, (20, 1), (1, 20), False), (1, (20, 0), (1, 20), False), (1, (20, -1), (1, 20), False),
            (1, (20, 1), (0, 20), False), (1, (20, 1), (-LITTLE, 20), False),
        ]:
            told = (row(10, 4, 3), row(weight), [row(*first), row(*second)])
            self.assert_judged(accepted, ONE_BUY, row(1, 3), row(3, 1), "first", told)
        self.assert_judged(False, EMPTY, row(1, 1), row(0, 1), "first", (row(1, 0), [], [row(1, 0), row(1, 1)]))
        self.assert_judged(False, EMPTY, row(1, 1), row(0, 1), "first", (row(1, 0), [], [row(1, 1), row(1, 0)]))
        self.assert_judged(True, EMPTY, row(1, 1), row(0, 1), "first", (row(1, 0), [], [row(1, 1), row(1, 1)]))

    def test_each_plane_alone(self):
        """With three apart points, each plane in turn says ever so little less of each other point than its number."""
        data = Data(3, [(row(1, 1, 1), row(6, 0, 0))], [])
        first, second = row(0, 7, 0), row(0, 0, 8)
        base = [Fraction(x) for x in (6, 7, 8)]
        told = (row(*base), row(1), [row(1, 1, 1), row(1, 1, 1)])
        self.assert_judged(True, data, first, second, "second", told)
        for b in range(2):
            for g in range(3):
                for sign in (1, -1):
                    slopes = [[Fraction(1)] * 3 for _ in range(2)]
                    slopes[b][g] += sign * LITTLE
                    changed = (told[0], told[1], [row(*part) for part in slopes])
                    own = g == b + 1
                    self.assert_judged(own == (sign < 0), data, first, second, "second", changed)
        # The purchase's plane alone, of each basket.
        for prices in [(1, 1 - LITTLE, 1), (1, 1, 1 - LITTLE)]:
            less = Data(3, [(row(*prices), row(6, 0, 0))], [])
            self.assert_judged(False, less, first, second, "second", told)

    def test_links(self):
        apart = [[2, 3], [3, 2]]
        for links, first, second, accepted in [
            ([(0, 1, False)], 2, 2, True), ([(0, 1, True)], 2, 2, False), ([(0, 1, True)], 2 + LITTLE, 2, True),
            ([(0, 1, False)], 2, 2 + LITTLE, False), ([(1, 0, True)], 2 + LITTLE, 2, False),
            ([(0, 0, False)], 2, 2, True), ([(0, 0, True)], 2, 2, False), ([(1, 1, True)], 3, 2, False),
            ([(0, 1, False), (1, 0, False)], 2, 2, True), ([(0, 1, False), (1, 0, False)], 3, 2, False),
            ([(0, 1, False), (0, 1, True)], 2, 2, False), ([(0, 1, False), (0, 1, True)], 3, 2, True),
        ]:
            told = (row(first, second, -9, -9), row(3, 3), [row(99, 99), row(99, 99)])
            self.assert_judged(True, axes(*apart), row("1/9", 0), row(0, "1/9"), "alike", told)
            self.assert_judged(accepted, axes(*apart, links=links), row("1/9", 0), row(0, "1/9"), "alike", told)

    def test_lists_of_the_wrong_length(self):
        base = [row(4, 5, 4), row(1), [row(1, 1), row(1, 1)]]
        for k, wrong in [(0, row(4, 5)), (0, row(4, 5, 4, 4)), (0, []), (1, []), (1, row(1, 1)), (2, []),
                         (2, [row(1, 1)]), (2, [row(1, 1)] * 3), (2, [row(1, 1), row(1)]), (2, [row(1), row(1, 1)]),
                         (2, [row(1, 1, 1), row(1, 1)]), (2, [row(1, 1), row(1, 1, 1)]), (2, [[], []])]:
            told = list(base)
            told[k] = wrong
            self.assert_judged(False, ONE_BUY, row(3, 2), row(1, 3), "first", tuple(told))
        self.assertIs(judge_liking(ONE_BUY, row(3, 2), row(1, 3), "first", tuple(base)), True)
        for first, second in [(row(3), row(1, 3)), (row(3, 2, 0), row(1, 3)), (row(3, 2), row(1)), (row(3, 2), []),
                              (row(3, 2), row(1, 3, 0))]:
            self.assertIs(judge_liking(ONE_BUY, first, second, "first", tuple(base)), False)

    def test_data_with_a_ring(self):
        ring = axes([2, 1], [1, 2])
        told = (row(2, 2, 1, 1), row(1, 1), [row(1, 9), row(9, 1)])
        self.assert_judged(False, ring, row("1/9", 0), row(0, "1/9"), "alike", told)
        told = (row(2, 2), [], [row(1, 9), row(9, 1)])
        self.assert_judged(True, EMPTY, row("1/9", 0), row(0, "1/9"), "alike", told)


class Refusals(unittest.TestCase):
    def assert_judged(self, expected, data, first, second, goal, told):
        passed = copy.deepcopy((inside(data), first, second, told))
        found = judge_refusal(data, first, second, goal, told)
        self.assertEqual((inside(data), first, second, told), passed)
        self.assertIs(found, expected)
        self.assertIs(found, refusal_fits(data, first, second, goal, told))

    def test_one_basket_holds_more(self):
        # The plane of the first says less of the second, which is to be better.
        for goal, prices, goals, expected in [
            ("second", {(0, 1): 1}, [1], True), ("second", {(0, 1): 5}, [5], True), ("second", {(0, 1): 1}, [2], False),
            ("second", {(0, 1): 1}, [1 + LITTLE], False), ("second", {(0, 1): 1}, [0], False),
            ("second", {}, [0], False),
            ("second", {(1, 0): 1}, [1], False), ("first", {(0, 1): 1}, [1], False), ("first", {(1, 0): 1}, [1], False),
            ("alike", {(0, 1): 1}, [1, 0], True), ("alike", {(0, 1): 1}, [0, 1], False),
            ("alike", {(0, 1): 1}, [3, 2], True), ("alike", {(0, 1): 1}, [3, 1], False), ("alike", {}, [1, 1], False),
        ]:
            told = refusal_of(2, prices, [], goals)
            self.assert_judged(expected, EMPTY, row(2, 1), row(1, 1), goal, told)

    def test_baskets_that_are_the_same(self):
        # Nothing is less but the goal.
        for goal, prices, goals, expected in [
            ("second", {(0, 1): 1}, [1], True), ("first", {(1, 0): 1}, [1], True),
            ("alike", {(0, 1): 1}, [1, 0], False),
            ("alike", {(0, 1): 1, (1, 0): 1}, [1, 1], False), ("first", {(1, 0): 1, (0, 1): 1}, [0], False),
            ("first", {(1, 0): 1, (0, 0): 7, (1, 1): 2}, [1], True),
        ]:
            self.assert_judged(expected, EMPTY, row(2, 1), row(2, 1), goal, refusal_of(2, prices, [], goals))

    def test_prices_below_zero(self):
        good = {(0, 1): Fraction(1)}
        self.assert_judged(True, EMPTY, row(2, 1), row(1, 1), "second", refusal_of(2, good, [], [1]))
        for k in range(2):
            told = refusal_of(2, {**good, (k, k): -LITTLE}, [], [1])
            self.assert_judged(False, EMPTY, row(2, 1), row(1, 1), "second", told)
        # A goal price below 0 would go the other way round.
        self.assert_judged(False, EMPTY, row(2, 1), row(1, 1), "alike", refusal_of(2, good, [], [0, -1]))
        self.assert_judged(False, EMPTY, row(1, 1), row(2, 1), "first", refusal_of(2, {(0, 1): 1}, [], [-1]))
        # So would the price of a link, and that of a link with itself changes nothing else.
        apart = [[2, 3], [3, 2]]
        for links, price, expected in [([(0, 0, False)], 0, True), ([(0, 0, False)], -LITTLE, False),
                                       ([(0, 0, False)], 3, True)]:
            told = refusal_of(4, {(2, 3): 1}, [price], [1])
            self.assert_judged(expected, axes(*apart, links=links), row(2, 1), row(1, 1), "second", told)

    def test_flows_at_each_point(self):
        # From the first basket to purchase 0 and on to the second, each step by the plane of the one before.
        data = Data(2, [(row(1, 1), row(2, 2))], [])
        base = {(1, 0): Fraction(1), (0, 2): Fraction(1)}
        self.assert_judged(True, data, row(2, 3), row(2, 1), "second", refusal_of(3, base, [], [1]))
        for key in [(1, 0), (0, 2), (1, 2), (0, 1), (2, 0), (2, 1)]:
            for more in [LITTLE, 1]:
                told = refusal_of(3, {**base, key: base.get(key, 0) + more}, [], [1])
                self.assert_judged(False, data, row(2, 3), row(2, 1), "second", told)
        for key in [(0, 0), (1, 1), (2, 2)]:
            told = refusal_of(3, {**base, key: 9}, [], [1])
            self.assert_judged(True, data, row(2, 3), row(2, 1), "second", told)

    def test_what_the_points_cost_and_hold(self):
        for buy, first, second, expected in [
            ((2, 2), (2, 3), (2, 1), True), ((2, 2), (2, 2), (2, 2), True), ((2, 2), (2, 2), (1, 3), True),
            ((2, 2), (2, 2), (1, 3 + LITTLE), False), ((2, 2), (2 - LITTLE, 9), (2, 2), False),
            ((2, 2), (9, 2 - LITTLE), (2, 2), False), ((2, 2 + LITTLE), (2, 2), (1, 3), False),
        ]:
            data = Data(2, [(row(1, 1), row(*buy))], [])
            told = refusal_of(3, {(1, 0): 1, (0, 2): 1}, [], [1])
            self.assert_judged(expected, data, row(*first), row(*second), "second", told)
            # For "alike" something else must be less.
            somewhere = expected and (buy != first or sum(second) < 4)
            told = refusal_of(3, {(1, 0): 1, (0, 2): 1}, [], [1, 0])
            self.assert_judged(somewhere, data, row(*first), row(*second), "alike", told)

    def test_a_mixture(self):
        # The first is the middle of two purchases that are as good as each other, so of both it has enough.
        data = Data(2, [(row(3, 1), row(1, 3)), (row(1, 3), row(3, 1))], [(0, 1, False), (1, 0, False)])
        for first, expected in [((2, 2), True), ((2, 2 - LITTLE), False), ((3, 3), True)]:
            # Prices: the first allows both, 1 leads to 0 by its link, and 0 is the second basket.
            told = refusal_of(4, {(2, 0): 1, (2, 1): 1, (0, 3): 2}, [0, 1], [2])
            self.assert_judged(expected, data, row(*first), row(1, 3), "second", told)
            told = refusal_of(4, {(2, 0): 1, (2, 1): 1, (0, 3): 2}, [1, 0], [2])
            self.assert_judged(False, data, row(*first), row(1, 3), "second", told)

    def test_strict_links(self):
        apart = [[2, 3], [3, 2]]
        for links, prices, expected in [
            ([(0, 1, True), (1, 0, False)], [1, 1], True), ([(0, 1, False), (1, 0, False)], [1, 1], False),
            ([(0, 1, True), (1, 0, False)], [0, 0], False), ([(0, 1, True), (1, 0, False)], [1, 0], False),
            ([(0, 1, True), (1, 0, False)], [1, 1 - LITTLE], False), ([(0, 1, True), (0, 1, False)], [1, 1], False),
            ([(0, 0, True)], [1], True), ([(0, 0, True)], [LITTLE], True), ([(0, 0, True)], [0], False),
            ([(0, 0, False)], [1], False), ([(1, 1, True)], [3], True),
        ]:
            for goal in GOALS:
                told = refusal_of(4, {}, prices, [0, 0] if goal == "alike" else [0])
                self.assert_judged(expected, axes(*apart, links=links), row(1, 1), row(2, 2), goal, told)
        # A ring without links.
        for goal in GOALS:
            told = refusal_of(4, {(0, 1): 1, (1, 0): 1}, [], [0, 0] if goal == "alike" else [0])
            self.assert_judged(True, axes([2, 1], [1, 2]), row(1, 1), row(2, 2), goal, told)
            self.assert_judged(False, axes([2, 2], [2, 2]), row(1, 1), row(2, 2), goal, told)
            self.assert_judged(True, axes([2, 2], [1, 2]), row(1, 1), row(2, 2), goal, told)

    def test_lists_of_the_wrong_length(self):
        data = Data(2, ONE_BUY.buys, [(0, 0, False)])
        first, second = row(2, 3), row(2, 1)
        good = refusal_of(3, {(1, 0): 1, (0, 2): 1}, [0], [1])
        self.assert_judged(True, data, first, second, "second", good)
        zero = (0, 1)
        for k, wrong in [(0, good[0][:2]), (0, [*good[0], row(0, 0, 0)]), (0, []), (0, [good[0][0][:2], *good[0][1:]]),
                         (0, [*good[0][:2], row(0, 0)]), (0, [*good[0][:2], row(0, 0, 0, 0)]),
                         (0, [[*part, zero] for part in good[0]]), (1, []), (1, row(0, 0)), (1, row(0, 1)), (2, []),
                         (2, row(1, 0)), (2, row(1, 1))]:
            told = list(good)
            told[k] = wrong
            self.assert_judged(False, data, first, second, "second", tuple(told))
        self.assert_judged(False, data, first, second, "alike", good)
        for told in [row(1, 0, 0), []]:
            self.assert_judged(False, data, first, second, "alike", (good[0], good[1], told))
        self.assert_judged(True, data, first, second, "alike", (good[0], good[1], row(1, 0)))
        for one, other in [(row(2), second), ([*first, zero], second), (first, row(2)), (first, [*second, zero])]:
            self.assertIs(judge_refusal(data, one, other, "second", good), False)

    def test_made_refusals(self):
        rng = random.Random(17)
        seen = {}
        turn = 0
        while turn < 400:
            data = made_data(rng, 2, rng.randint(0, 2), rng.randint(0, 2), 3)
            first, second = [row(*[rng.randint(0, 3) for _ in range(2)]) for _ in range(2)]
            goal = rng.choice(GOALS)
            kind, told = likes(data, first, second, goal)
            if kind != "cannot":
                continue
            turn += 1
            flat = [told[1], told[2], *told[0]]
            part = rng.choice([part for part in flat if part])
            part[rng.randrange(len(part))] = rng.choice([(0, 1), (-1, 1), (1, 1), (2, 1)])
            found = refusal_fits(data, first, second, goal, told)
            self.assert_judged(found, data, first, second, goal, told)
            seen[found] = seen.get(found, 0) + 1
        self.assertGreater(min(seen.values()), 60, seen)


if __name__ == "__main__":
    unittest.main()
