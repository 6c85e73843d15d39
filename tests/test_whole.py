"""Over the whole program: from purchases to each kind of certificate, and what every function leaves as it was."""

import copy
import random
import unittest
from fractions import Fraction

from buybook import (book, buying, conflicts, data, desk, ends, likings, market, needs, programs, ratio, reach,
                     rings, rows, settling, steps, tastes, totals)
from samples import axes, cost_of, made_data, pair, row

TEXT = "market goods bread wine end people ann bob as ann cid end end"
NEW_PRICES = row(3, 2)
MONEY = (9, 1)
WEIGHTS = row(0, 1)
GOALS = ["first", "alike", "second"]


def made_book():
    """Return a book in which the purchases of ann come from a taste, and those of cid do not."""
    made = book.Book(market.parse_market(TEXT))
    made.buy("a", "ann", row(2, 3), row(2, 1))
    made.buy("b", "bob", row(3, 4), row(1, 0))
    made.buy("c", "cid", row(1, 2), row(1, 2))
    made.buy("d", "cid", row(2, 1), row(2, 1))
    made.say("better a than b")
    return made


def lists_in(value):
    """Return all lists within a value, those of the program's objects included."""
    if isinstance(value, list):
        return [value] + [part for item in value for part in lists_in(item)]
    if isinstance(value, (tuple, set)):
        return [part for item in value for part in lists_in(item)]
    if isinstance(value, dict):
        return [part for item in value.values() for part in lists_in(item)]
    if hasattr(value, "__dict__"):
        return lists_in(vars(value))
    return []


def told(value):
    """Return a value as one that can be compared: objects by all that they hold."""
    if isinstance(value, (list, tuple)):
        return type(value)(told(item) for item in value)
    if isinstance(value, dict):
        return {key: told(item) for key, item in value.items()}
    if hasattr(value, "__dict__"):
        return (type(value).__name__, told(vars(value)))
    return value


class Certificates(unittest.TestCase):
    """From purchases to each kind of certificate, which its judge accepts and another question's does not."""

    def setUp(self):
        self.book = made_book()
        self.data = self.book.data("bob")
        self.bad = self.book.data("cid")

    def test_tastes_and_rings(self):
        kind, taste = rings.check(self.data)
        self.assertEqual(kind, "taste")
        self.assertIs(tastes.judge_taste(self.data, taste), True)
        self.assertEqual(tastes.worth(self.data, taste, row(2, 1)), taste[0][0])
        kind, chain = rings.check(self.bad)
        self.assertEqual((kind, steps.judge_chain(self.bad, chain), chain[0]), ("ring", True, chain[-1]))
        self.assertIs(tastes.judge_taste(self.bad, taste), False)
        self.assertEqual(conflicts.conflicts(self.bad), ([[0, 1]], [[0], [1]]))
        for things in conflicts.conflicts(self.bad)[1]:
            self.assertEqual(rings.check(conflicts.part(self.bad, things))[0], "taste")

    def test_buying(self):
        kind, taste = buying.buys(self.data, NEW_PRICES, MONEY, row(1, 3))
        self.assertEqual(kind, "taste")
        wider = data.Data(2, [*self.data.buys, (NEW_PRICES, row(1, 3))], self.data.links)
        self.assertIs(tastes.judge_taste(wider, taste), True)
        kind, j, chain = buying.buys(self.data, NEW_PRICES, MONEY, row(3, 0))
        self.assertEqual((kind, j, chain[-1]), ("row", 0, 0))
        self.assertIsNotNone(steps.judge_chain(self.data, chain))
        self.assertEqual(reach.reached(self.data, NEW_PRICES, MONEY)[j], True)
        self.assertEqual(buying.buys(self.bad, NEW_PRICES, MONEY, row(3, 0))[0], "ring")

    def test_papers(self):
        kind, value, inner, limit, paper = ends.least(self.data, NEW_PRICES, MONEY, WEIGHTS)
        self.assertEqual((kind, value), ("near", (3, 5)))
        self.assertIs(ends.judge_strict_paper(self.data, NEW_PRICES, MONEY, WEIGHTS, value, paper), True)
        self.assertEqual(buying.buys(self.data, NEW_PRICES, MONEY, inner)[0], "taste")
        self.assertEqual(buying.buys(self.data, NEW_PRICES, MONEY, limit)[0], "row")
        kind, value, basket, paper = ends.greatest(self.data, NEW_PRICES, MONEY, WEIGHTS)
        self.assertEqual((kind, value), ("met", (9, 2)))
        negatives = rows.scale((-1, 1), WEIGHTS)
        self.assertIs(ends.judge_paper(self.data, NEW_PRICES, MONEY, negatives, ratio.neg(value), paper), True)
        self.assertEqual(buying.buys(self.data, NEW_PRICES, MONEY, basket)[0], "taste")
        asks = [(self.data, NEW_PRICES, MONEY), (self.data, NEW_PRICES, (8, 1))]
        self.assertEqual(totals.total_least(asks, WEIGHTS), ("told", (8, 5), False))
        self.assertEqual(totals.total_least([*asks, (self.bad, NEW_PRICES, MONEY)], WEIGHTS), ("ring", 2))

    def test_needs(self):
        kind, money, met, chain = needs.greatest_need(self.data, 1, NEW_PRICES)
        self.assertEqual((kind, money, met, chain), ("told", (3, 1), True, [1]))
        kind, money, basket, paper = needs.least_need(self.data, 0, NEW_PRICES)
        self.assertEqual((kind, money, basket), ("met", (14, 3), row(0, "7/3")))
        self.assertIs(needs.judge_need(self.data, 0, NEW_PRICES, money, paper), True)
        self.assertIs(needs.judge_need(self.data, 0, NEW_PRICES, pair("15/3"), paper), False)

    def test_likings(self):
        for goal, expected in zip(GOALS, ["can", "cannot", "cannot"]):
            kind, certificate = likings.likes(self.data, row(2, 1), row(1, 1), goal)
            self.assertEqual(kind, expected)
            judge = likings.judge_liking if kind == "can" else likings.judge_refusal
            self.assertIs(judge(self.data, row(2, 1), row(1, 1), goal, certificate), True)
            self.assertIs(judge(self.data, row(2, 1), row(3, 1), goal, certificate), False)
        self.assertEqual(settling.settling(self.data, row(2, 1), row(1, 0), [(0, 1)]), [[]])

    def test_a_desk(self):
        taken = [("buy", *bought) for bought in self.book.purchases()]
        taken += [("say", text) for text in self.book.statements()]
        made = desk.replay(market.parse_market(TEXT), taken)
        made.do(("ask", "q", "bob", NEW_PRICES, MONEY, WEIGHTS))
        made.do(("ask", "r", "cid", NEW_PRICES, MONEY, WEIGHTS))
        self.assertEqual(made.standing(), [("q", ("near", (3, 5))), ("r", ("ring",))])
        paper = ends.least(self.data, NEW_PRICES, MONEY, WEIGHTS)[-1]
        named = (paper[0], list(zip(self.book.names("bob"), paper[1])))
        self.assertIs(made.judge_named_paper("ann", NEW_PRICES, MONEY, WEIGHTS, (3, 5), named), True)
        self.assertIs(made.touches(("unsay", 0), "ann", NEW_PRICES, MONEY, named), False)
        made.do(("unsay", 0))
        self.assertIs(made.touches(("forget", "a"), "ann", NEW_PRICES, MONEY, named), True)
        self.assertEqual(made.changes(("forget", "a")), [("q", ("near", (3, 5)), ("met", (0, 1)))])

    def test_the_answers_agree(self):
        """What can be bought, the ends, the needs and the likings of one person's data say the same."""
        rng = random.Random(21)
        kinds = {}
        for turn in range(150):
            made = made_data(rng, 2, rng.randint(1, 3), turn % 2, rng.randint(2, 5))
            if rings.check(made)[0] == "ring":
                continue
            prices = row(rng.randint(1, 4), rng.randint(1, 4))
            money = pair(cost_of(prices, made.buys[0][1]) + rng.randint(0, 1))
            x = Fraction(rng.randint(0, 6), 6) * Fraction(*money) / prices[0][0]
            basket = row(x, (Fraction(*money) - x * prices[0][0]) / prices[1][0])
            kind = buying.buys(made, prices, money, basket)[0]
            kinds[kind] = kinds.get(kind, 0) + 1
            low = ends.least(made, prices, money, row(1, 0))
            high = ends.greatest(made, prices, money, row(1, 0))
            within = Fraction(*low[1]) < x < Fraction(*high[1])
            at_end = (x == Fraction(*low[1]) and low[0] == "met") or (x == Fraction(*high[1]) and high[0] == "met")
            # On a line all baskets between two that can be bought can be bought.
            self.assertEqual(kind == "taste", within or at_end)
            wider = data.Data(2, [*made.buys, (prices, basket)], made.links)
            self.assertEqual(kind == "taste", rings.check(wider)[0] == "taste")
            # Of two baskets for the money, that which can be bought can be liked more than the other one.
            other = row(Fraction(*money) / prices[0][0], 0)
            if kind == "taste":
                self.assertTrue({"can"} & {likings.likes(made, basket, other, goal)[0] for goal in GOALS[:2]})
            # Some money makes up for purchase 0 in every taste: then no basket for less is worth more.
            need = needs.greatest_need(made, 0, prices)
            self.assertLessEqual(Fraction(*needs.least_need(made, 0, prices)[1]), Fraction(*need[1]))
        self.assertGreater(min(kinds.values()), 10, kinds)


class Arguments(unittest.TestCase):
    """Every function leaves its arguments as they were, and returns lists that are its own."""

    def calls(self):
        """Return (function, arguments) for every function of the interface, and answers of several kinds."""
        made = made_book()
        good, bad = made.data("ann"), made.data("cid")
        six = axes([2, 1, 3], [3, 2, 2], [3, 3, 2], links=[(0, 1, False), (0, 2, True), (0, 0, False)])
        paper, value = ends.least(good, NEW_PRICES, MONEY, WEIGHTS)[-1], (3, 5)
        need = needs.least_need(good, 0, NEW_PRICES)
        liking = likings.likes(good, row(2, 1), row(1, 1), "first")[1]
        refusal = likings.likes(good, row(2, 1), row(1, 1), "alike")[1]
        line = (row(1, 2), "least", (4, 1))
        yield from [(function, [(1, 2), (-2, 3)]) for function in
                    (ratio.add, ratio.sub, ratio.mul, ratio.div, ratio.less, ratio.at_most)]
        yield from [(ratio.ratio, [4, -6]), (ratio.neg, [(1, 2)]), (ratio.format_ratio, [(1, 2)]),
                    (ratio.parse_ratio, ["1/2"]), (rows.dot, [row(1, 2), row(3, 4)]), (rows.scale, [(2, 1), row(3, 4)]),
                    (rows.add_scaled, [row(1, 2), (2, 1), row(3, 4)]), (market.Market, [["a"], [("b", "b")]]),
                    (market.parse_market, [TEXT]), (market.format_market, [made.market]),
                    (market.head_of, [made.market, "bob"]), (data.Data, [2, good.buys, good.links]),
                    (data.cost, [row(1, 2), row(3, 4)])]
        for each in (good, bad, six):
            basket = row(*[1] * each.goods)
            prices = row(*range(1, each.goods + 1))
            taste = (row(*[1] * len(each.buys)), row(*[1] * len(each.buys)))
            ask = [each, prices, (2, 1)]
            money = pair(cost_of(prices, basket))
            yield from [(data.spent, [each, 0]), (steps.step, [each, 0, 1]), (steps.judge_chain, [each, [0, 1, 0]]),
                        (steps.leads, [each]), (steps.find_chain, [each, 0, 1]), (tastes.worth, [each, taste, basket]),
                        (tastes.judge_taste, [each, taste]), (rings.check, [each]), (conflicts.part, [each, [0, 1]]),
                        (conflicts.conflicts, [each]), (reach.reached, ask), (reach.reach_chain, [*ask, 0]),
                        (reach.keeps, [*ask, basket]), (buying.buys, [each, prices, money, basket]),
                        (ends.least, [*ask, basket]), (ends.greatest, [*ask, basket]),
                        (totals.total_least, [[tuple(ask), tuple(ask)], basket]),
                        (needs.greatest_need, [each, 1, prices]), (needs.least_need, [each, 0, prices]),
                        (settling.settles, [each, basket, prices, [(0, 1), (1, 0)], [0, 1]]),
                        (settling.settling, [each, basket, prices, [(0, 1), (1, 0)]])]
            yield from [(likings.likes, [each, basket, prices, goal]) for goal in GOALS]
        yield from [(function, [good, NEW_PRICES, MONEY, WEIGHTS, value, paper])
                    for function in (ends.judge_paper, ends.judge_strict_paper)]
        yield from [(function, [good, 0, NEW_PRICES, need[1], need[-1]])
                    for function in (needs.judge_need, needs.judge_strict_need)]
        ask = [good, NEW_PRICES, MONEY]
        yield from [(ends.least, [*ask, WEIGHTS]), (ends.greatest, [*ask, row(1, 0)]),
                    (buying.buys, [*ask, row(3, 0)]), (buying.buys, [*ask, row(1, 3)]),
                    (likings.judge_liking, [good, row(2, 1), row(1, 1), "first", liking]),
                    (likings.judge_refusal, [good, row(2, 1), row(1, 1), "alike", refusal]),
                    (programs.solve, [row(1, 1), [line]]), (programs.solve, [row(-1, 1), [line]]),
                    (programs.solve, [row(1, 1), [line, (row(1, 2), "most", (3, 1))]]),
                    (desk.replay, [made.market, made_desk().journal()])]

    def test_functions(self):
        seen = set()
        for function, passed in self.calls():
            seen.add(function.__name__)
            self.assert_left(function, passed, [])
        modules = (buying, conflicts, data, desk, ends, likings, market, needs, programs, ratio, reach, rings, rows,
                   settling, steps, tastes, totals)
        listed = {name for module in modules for name in INTERFACE
                  if getattr(vars(module).get(name), "__module__", None) == module.__name__}
        self.assertEqual(listed, INTERFACE)
        self.assertEqual(seen, INTERFACE)

    def assert_left(self, function, passed, owner):
        before = told(passed)
        found = function(*passed)
        self.assertEqual(told(passed), before, function)
        taken = {id(part) for part in lists_in([passed, owner])}
        # A market is not changed after it was made, and a desk holds it.
        shared = [part for part in lists_in(found) if id(part) in taken]
        allowed = {id(part) for part in lists_in([item for item in passed if isinstance(item, market.Market)])}
        self.assertEqual([part for part in shared if id(part) not in allowed], [], function)

    def test_methods_of_books(self):
        made = made_book()
        for method, passed in [(made.purchases, []), (made.statements, []), (made.names, ["bob"]), (made.data, ["bob"]),
                               (made.buy, ["e", "cid", row(1, 2), row(0, 1)]), (made.say, ["well a as b"]),
                               (made.unsay, [0]), (made.forget, ["e"])]:
            self.assert_left(method, passed, made)
        bought = row(1, 1)
        made.buy("e", "cid", bought, bought)
        self.assertNotIn(id(bought), [id(part) for part in lists_in(made)])

    def test_methods_of_desks(self):
        made = made_desk()
        paper = ((-2, 1), [("a", (3, 1))])
        entry = ("buy", "e", "cid", row(1, 2), row(0, 1))
        for method, passed in [(made.standing, []), (made.journal, []), (made.changes, [entry]),
                               (made.touches, [entry, "ann", NEW_PRICES, MONEY, paper]),
                               (made.judge_named_paper, ["ann", NEW_PRICES, MONEY, WEIGHTS, (3, 5), paper])]:
            before = told(made)
            self.assert_left(method, passed, made)
            self.assertEqual(told(made), before)
        for entry in [entry, ("ask", "r", "ann", row(1, 2), (3, 1), row(1, 1)), ("unsay", 0), ("forget", "a")]:
            self.assert_left(made.do, [entry], made)
            passed = {id(part) for part in lists_in(entry)}
            self.assertEqual([part for part in lists_in(made) if id(part) in passed], [])

    def test_all_fractions_are_in_lowest_terms(self):
        for function, passed in self.calls():
            for number in fractions_in(function(*copy.deepcopy(passed))):
                self.assertEqual(number, pair(Fraction(*number)), function)


def fractions_in(value):
    """Return all lists of pairs of integers that are not those of links or questions: lists of fractions."""
    return [number for part in lists_in(value) for number in part
            if isinstance(number, tuple) and len(number) == 2 and all(type(x) is int for x in number)]


def made_desk():
    made = desk.Desk(market.parse_market(TEXT))
    for bought in made_book().purchases():
        made.do(("buy", *bought))
    for text in made_book().statements():
        made.do(("say", text))
    made.do(("ask", "q", "bob", NEW_PRICES, MONEY, WEIGHTS))
    return made


INTERFACE = set("""
ratio add sub mul div neg less at_most format_ratio parse_ratio dot scale add_scaled Market parse_market format_market
head_of Data cost spent step judge_chain leads find_chain worth judge_taste check part conflicts solve reached
reach_chain keeps buys judge_paper judge_strict_paper least greatest total_least greatest_need judge_need
judge_strict_need least_need judge_liking judge_refusal likes settles settling replay
""".split())


if __name__ == "__main__":
    unittest.main()
