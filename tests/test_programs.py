import copy
import random
import signal
import unittest
from fractions import Fraction

from buybook import programs as module
from buybook.programs import solve
from samples import check_functions, numbers, pair, row

KINDS = ["least", "equal", "most"]
SECONDS = 100


def line(entries, kind, right):
    return (row(*entries), kind, pair(right))


def total(a, b):
    return sum((x * y for x, y in zip(a, b)), Fraction(0))


def stop(*_):
    raise AssertionError(f"not solved after {SECONDS} seconds")


class ProgramCase(unittest.TestCase):
    """Checks each answer by the words of point 21."""

    def setUp(self):
        # A rule that comes round would go on for ever.
        signal.signal(signal.SIGALRM, stop)
        signal.alarm(SECONDS)

    def tearDown(self):
        signal.alarm(0)

    def assert_solved(self, costs, lines, expected=None, value=None):
        passed = copy.deepcopy((costs, lines))
        told = solve(costs, lines)
        self.assertEqual((costs, lines), passed)
        self.assertIs(type(told), tuple)
        if expected is not None:
            self.assertEqual(told[0], expected)
        if value is not None:
            self.assertEqual(told[1], pair(value))
        getattr(self, "check_" + told[0])(numbers(costs), [(numbers(e), kind, Fraction(*b)) for e, kind, b in lines],
                                          *told[1:])
        return told

    def check_end(self, costs, lines, value, values, prices):
        self.check_row([value], 1)
        self.check_values(lines, values, len(costs))
        self.assertEqual(total(costs, numbers(values)), Fraction(*value))
        at_columns, at_right = self.check_prices(lines, prices, len(costs))
        for said, cost in zip(at_columns, costs):
            self.assertLessEqual(said, cost)
        self.assertEqual(at_right, Fraction(*value))

    def check_nothing(self, costs, lines, prices):
        at_columns, at_right = self.check_prices(lines, prices, len(costs))
        for said in at_columns:
            self.assertLessEqual(said, 0)
        self.assertGreater(at_right, 0)

    def check_falls(self, costs, lines, values, ray):
        self.check_values(lines, values, len(costs))
        self.check_values([(entries, kind, 0) for entries, kind, _ in lines], ray, len(costs))
        self.assertLess(total(costs, numbers(ray)), 0)

    def check_row(self, found, many):
        self.assertIs(type(found), list)
        self.assertEqual(len(found), many)
        for number in found:
            self.assertIs(type(number), tuple)
            self.assertEqual(number, pair(Fraction(*number)))

    def check_values(self, lines, values, many):
        self.check_row(values, many)
        self.assertTrue(all(x >= 0 for x in numbers(values)))
        for entries, kind, right in lines:
            comes = total(entries, numbers(values))
            self.assertTrue({"least": comes >= right, "equal": comes == right, "most": comes <= right}[kind])

    def check_prices(self, lines, prices, many):
        self.check_row(prices, len(lines))
        told = numbers(prices)
        for price, (_, kind, _) in zip(told, lines):
            self.assertTrue({"least": price >= 0, "equal": True, "most": price <= 0}[kind])
        at_columns = [total(told, [entries[j] for entries, _, _ in lines]) for j in range(many)]
        return at_columns, total(told, [right for _, _, right in lines])


class Ends(ProgramCase):
    def test_names_and_arguments(self):
        check_functions(self, module, {"solve": "costs lines"})

    def test_least(self):
        lines = [line([1, 2], "least", 4), line([3, 1], "least", 6)]
        told = self.assert_solved(row(1, 1), lines, "end", "14/5")
        self.assertEqual(told, ("end", (14, 5), row("8/5", "6/5"), row("2/5", "1/5")))

    def test_most(self):
        lines = [line([1, 1], "most", 4), line([1, 3], "most", 6)]
        self.assertEqual(self.assert_solved(row(-3, -5), lines, "end", -14)[2], row(3, 1))
        self.assert_solved(row(3, 5), lines, "end", 0)
        self.assert_solved(row(0, -1), lines, "end", -2)

    def test_equal(self):
        lines = [line([1, 1, 1], "equal", 4), line([1, -1, 0], "equal", 1)]
        self.assert_solved(row(1, 2, 3), lines, "end", "11/2")
        self.assert_solved(row(3, 2, 1), lines, "end", 6)
        self.assert_solved(row(3, 2, 4), lines, "end", "21/2")

    def test_all_three_kinds(self):
        lines = [line([1, 1, 1], "equal", 10), line([1, 0, 2], "least", 3), line([0, 1, -1], "most", 2)]
        self.assert_solved(row(2, 1, 4), lines, "end", 18)
        self.assert_solved(row(-2, 1, 4), lines, "end", -20)

    def test_one_column_and_one_line(self):
        for kind in KINDS:
            for right in [-2, 0, "3/7"]:
                for entry in [-1, 0, "2/3"]:
                    for cost in [-1, 0, 5]:
                        self.check_one(Fraction(entry), kind, Fraction(right), cost)

    def check_one(self, entry, kind, right, cost):
        """Where the one value lies between low and high, tell what follows."""
        low, high = Fraction(0), None
        if entry == 0:
            fits = {"least": right <= 0, "equal": right == 0, "most": right >= 0}[kind]
        else:
            bound, up = right / entry, kind == "least" if entry > 0 else kind == "most"
            if up or kind == "equal":
                low = max(low, bound)
            if not up:
                high = bound
            fits = high is None or low <= high
        if not fits:
            self.assert_solved(row(cost), [line([entry], kind, right)], "nothing")
        elif cost < 0 and high is None:
            self.assert_solved(row(cost), [line([entry], kind, right)], "falls")
        else:
            self.assert_solved(row(cost), [line([entry], kind, right)], "end", cost * (high if cost < 0 else low))

    def test_nothing(self):
        for lines in [
            [line([1, 1], "most", -1)], [line([-1, -2], "least", "1/9")], [line([1, 2], "equal", -3)],
            [line([1, 1], "least", 3), line([1, 1], "most", 2)], [line([1, 1], "equal", 3), line([1, 1], "equal", 2)],
            [line([1, 2], "equal", 3), line([2, 1], "equal", 3), line([1, 1], "equal", "2000001/1000000")],
            [line([1, 2], "least", 3), line([1, 0], "most", 1), line([0, 2], "most", "19/10")],
            [line([1, -1], "equal", 1), line([1, 0], "most", "1/2")],
            [line([1, 0], "least", 1), line([-1, 1], "equal", 1), line([0, 1], "most", 1)],
            [line([-1, -1], "equal", -1), line([1, 0], "least", 2), line([0, 1], "least", -5)],
        ]:
            for costs in [row(0, 0), row(1, 2), row(-1, -2)]:
                self.assert_solved(costs, lines, "nothing")

    def test_falls(self):
        for costs, lines in [
            (row(-1, 0), [line([1, 1], "least", 3)]), (row(-1, "1/2"), [line([1, -1], "most", 2)]),
            (row(-1, 1, 0), [line([1, 0, -1], "equal", 2)]), (row(0, -1), [line([1, 0], "most", 2)]),
            (row(2, -3), [line([1, -1], "equal", 0), line([1, 0], "least", 7)]),
            (row(-1, 0, 0), [line([1, -1, 0], "most", -2), line([0, 1, -1], "most", -2), line([0, 1, 0], "least", -1)]),
            (row(1, 1, -1), [line([1, 1, 0], "equal", 4), line([0, 1, -1], "most", "1/3")]),
        ]:
            self.assert_solved(costs, lines, "falls")

    def test_right_sides_below_zero(self):
        self.assert_solved(row(1, 1), [line([-1, -1], "most", -3)], "end", 3)
        self.assert_solved(row(1, 1), [line([1, 1], "least", -3)], "end", 0)
        self.assert_solved(row(1, 2), [line([-1, -1], "equal", -3)], "end", 3)
        self.assert_solved(row(-1, -2), [line([1, -1], "least", -3), line([1, 0], "most", 5)], "end", -21)

    def test_several_lines_that_zeros_do_not_keep(self):
        self.assert_solved(row(-1, 0, 2), [line([1, 2, -1], "most", 0), line([-2, 1, 2], "least", -1),
                                           line([1, -1, 1], "least", 3), line([-1, 2, -1], "least", 2)])
        self.assert_solved(row(2, -1, -2, 0), [line([2, 2, 0, -2], "most", 3), line([1, -2, -1, 1], "least", 2),
                                               line([0, 1, -1, 0], "most", -2), line([0, -1, 1, -1], "equal", 1)])

    def test_costs_all_zero(self):
        lines = [line([1, 2], "least", 4), line([1, 1], "equal", 3), line([0, 1], "most", 2)]
        self.assert_solved(row(0, 0), lines, "end", 0)


class Edges(ProgramCase):
    def test_no_columns_and_no_lines(self):
        self.assertEqual(self.assert_solved([], []), ("end", (0, 1), [], []))
        self.assertEqual(self.assert_solved(row(1, 0, 7), []), ("end", (0, 1), row(0, 0, 0), []))
        self.assert_solved(row(1, 0, -7), [], "falls")
        for lines, expected in [
            ([line([], "least", 0), line([], "equal", 0), line([], "most", 0)], "end"),
            ([line([], "least", -1), line([], "most", 1)], "end"), ([line([], "least", "1/3")], "nothing"),
            ([line([], "most", "-1/3")], "nothing"), ([line([], "equal", 2)], "nothing"),
            ([line([], "equal", -2)], "nothing"), ([line([], "least", 0), line([], "equal", -2)], "nothing"),
        ]:
            self.assert_solved([], lines, expected)

    def test_entries_all_zero(self):
        for right, ends in [(-1, ["end", "nothing", "nothing"]), (0, ["end", "end", "end"]),
                            (1, ["nothing", "nothing", "end"])]:
            for kind, expected in zip(KINDS, ends):
                self.assert_solved(row(1, 1), [line([0, 0], kind, right)], expected)
                self.assert_solved(row(1, 1), [line([1, 2], "least", 3), line([0, 0], kind, right)], expected)
                self.assert_solved(row(1, 1), [line([0, 0], kind, right), line([1, 2], "equal", 3)], expected)

    def test_lines_that_say_the_same_twice(self):
        for kind in KINDS:
            lines = [line([1, 2], kind, 3)] * 4 + [line(["1/2", 1], kind, "3/2")]
            self.assert_solved(row(1, 1), lines, "end", 0 if kind == "most" else "3/2")
            self.assert_solved(row(-1, -1), lines, "falls" if kind == "least" else "end")

    def test_equal_lines_that_follow_from_others(self):
        lines = [line([1, 1, 0], "equal", 3), line([0, 1, 1], "equal", 4), line([1, 2, 1], "equal", 7),
                 line([1, 0, -1], "equal", -1), line([3, 3, 0], "equal", 9), line([-1, -1, 0], "equal", -3)]
        self.assert_solved(row(1, 1, 1), lines, "end", 4)
        self.assert_solved(row(1, 5, 1), lines, "end", 7)
        self.assert_solved(row(1, 1, 1), [*lines, line([2, 3, 1], "equal", "100001/10000")], "nothing")
        self.assert_solved(row(1, 1, 1), [line([2, 3, 1], "equal", "99999/10000"), *lines], "nothing")
        self.assert_solved(row(1, 1, 1, -1), [(told + [(0, 1)], kind, right) for told, kind, right in lines], "falls")

    def test_equal_lines_with_more_lines_than_columns(self):
        lines = [line([1, k], "equal", 2 + 3 * k) for k in range(-6, 7)]
        self.assert_solved(row(1, 1), lines, "end", 5)
        lines[7] = line([1, 1], "equal", 6)
        self.assert_solved(row(1, 1), lines, "nothing")

    def test_new_lists_each_time(self):
        for costs, lines in [(row(1, 1), [line([1, 2], "least", 4)]), (row(-1, 1), [line([1, 2], "least", 4)]),
                             (row(1, 1), [line([1, 2], "equal", -4)])]:
            first, second = solve(costs, lines), solve(costs, lines)
            for told in first:
                if isinstance(told, list):
                    told.clear()
            self.assertEqual(second, solve(costs, lines))


class Ties(ProgramCase):
    """Programs in which many columns or lines stand equal."""

    def test_programs_in_which_careless_rules_come_round(self):
        self.assert_solved(row("-3/4", 150, "-1/50", 6), [
            line(["1/4", -60, "-1/25", 9], "most", 0), line(["1/2", -90, "-1/50", 3], "most", 0),
            line([0, 0, 1, 0], "most", 1)], "end", "-1/20")
        self.assert_solved(row("-3/4", 20, "-1/2", 6), [
            line(["1/4", -8, -1, 9], "most", 0), line(["1/2", -12, "-1/2", 3], "most", 0),
            line([0, 0, 1, 0], "most", 1)], "end", "-5/4")
        self.assert_solved(row(-10, 57, 9, 24), [
            line(["1/2", "-11/2", "-5/2", 9], "most", 0), line(["1/2", "-3/2", "-1/2", 1], "most", 0),
            line([1, 0, 0, 0], "most", 1)], "end", -1)
        self.assert_solved(row(-2, -3, 1, 12), [
            line([-2, -9, 1, 9], "most", 0), line(["1/3", 1, "-1/3", -2], "most", 0),
            line([2, 3, -1, -12], "most", 2)], "end", -2)
        self.assert_solved(row(-2, -3, 1, 12), [
            line([-2, -9, 1, 9], "most", 0), line(["1/3", 1, "-1/3", -2], "most", 0)], "falls")

    def test_rules_that_mix_least_with_last(self):
        """Lines and gains that come round if the last column is taken, or the last or first line or slack that ties."""
        for entries, gains in [
            ([[-2, 3, -1, 2], [3, 1, -3, 1]], [2, -1, 2, -3]), ([[-4, -3, -5, -2], [5, -3, 4, 5]], [1, -4, 2, 5]),
            ([[9, 3, 5, -9, 9], [-8, -7, 5, -1, 6]], [3, 9, -7, -2, -5]),
            ([[3, -3, -3, -4, 4], [1, -4, 4, 1, 2]], [-3, -1, 1, 4, -3]),
            ([[-1, 5, -5], [-1, 4, 1], [-3, 5, 1]], [2, -4, 2]),
        ]:
            costs = row(*[-gain for gain in gains])
            self.assert_solved(costs, [line(told, "least", 0) for told in entries])
            self.assert_solved(costs, [line([-x for x in told], "most", 0) for told in entries])
            self.assert_solved(costs[::-1], [line(told[::-1], "least", 0) for told in entries])

    def test_the_same_backwards(self):
        lines = [line([9, "-1/25", -60, "1/4"], "most", 0), line([3, "-1/50", -90, "1/2"], "most", 0),
                 line([0, 1, 0, 0], "most", 1)]
        for order in [lines, lines[::-1], lines * 3]:
            self.assert_solved(row(6, "-1/50", 150, "-3/4"), order, "end", "-1/20")
        asked = [([(-p, q) for p, q in entries], "least", (-right[0], right[1])) for entries, _, right in lines]
        self.assert_solved(row(6, "-1/50", 150, "-3/4"), asked, "end", "-1/20")

    def test_all_alike(self):
        for many in [1, 5, 12]:
            lines = [line([1] * many, kind, 6) for kind in KINDS * 4]
            self.assert_solved(row(*[2] * many), lines, "end", 12)
            self.assert_solved(row(*[-2] * many), lines, "end", -12)

    def test_who_does_what(self):
        # Each of six does one of six things: of the 11 equal lines that count one is too many, and all but six values 0.
        rng = random.Random(12)
        costs = [[rng.randint(1, 4) for _ in range(6)] for _ in range(6)]
        flat = [(i, j) for i in range(6) for j in range(6)]
        lines = [line([a == i for a, _ in flat], "equal", 1) for i in range(6)]
        lines += [line([b == j for _, b in flat], "equal", 1) for j in range(6)]
        least = {0: 0}
        for i in range(6):
            reached = {}
            for taken, cost in least.items():
                for j in range(6):
                    if not taken >> j & 1:
                        key = taken | 1 << j
                        reached[key] = min(reached.get(key, 99), cost + costs[i][j])
            least = reached
        self.assert_solved(row(*[costs[i][j] for i, j in flat]), lines, "end", least[63])

    def test_made_up_with_right_sides_zero(self):
        rng = random.Random(13)
        seen = {"end": 0, "falls": 0}
        for _ in range(300):
            many = rng.randint(1, 7)
            lines = [line([rng.randint(-1, 1) for _ in range(many)], rng.choice(KINDS), 0)
                     for _ in range(rng.randint(1, 10))]
            seen[self.assert_solved(row(*[rng.randint(-1, 1) for _ in range(many)]), lines)[0]] += 1
        self.assertGreater(min(seen.values()), 30)


class Made(ProgramCase):
    def made(self, rng, most, below, zeros, many, lines):
        def number():
            if rng.random() < zeros:
                return (0, 1)
            return pair(Fraction(rng.randint(-most, most), rng.randint(1, below)))

        made = [([number() for _ in range(many)], rng.choice(KINDS), number()) for _ in range(lines)]
        if made and rng.random() < 0.3:
            made.append(rng.choice(made))
        return [number() for _ in range(many)], made

    def test_small_ones(self):
        rng = random.Random(14)
        seen = {"end": 0, "falls": 0, "nothing": 0}
        for _ in range(3000):
            costs, lines = self.made(rng, rng.choice([1, 3, 9]), rng.choice([1, 1, 4]), rng.choice([0.1, 0.5]),
                                     rng.randint(0, 6), rng.randint(0, 8))
            seen[self.assert_solved(costs, lines)[0]] += 1
        self.assertGreater(min(seen.values()), 300)

    def test_integers_of_twelve_digits(self):
        rng = random.Random(15)
        seen = {"end": 0, "falls": 0, "nothing": 0}
        for _ in range(200):
            costs, lines = self.made(rng, 10 ** 12, 10 ** 12, 0.2, rng.randint(1, 5), rng.randint(1, 6))
            seen[self.assert_solved(costs, lines)[0]] += 1
        self.assertGreater(min(seen.values()), 20)

    def test_sizes(self):
        """40 columns and 100 lines, of which an end, nothing and a fall is known."""
        rng = random.Random(16)
        fits = [rng.randint(0, 3) for _ in range(39)] + [0]
        entries = [[rng.randint(-9, 9) if rng.random() < 0.4 else 0 for _ in range(40)] for _ in range(99)]
        lines = []
        for at, told in enumerate(entries):
            comes = total(told, fits)
            kind = KINDS[at % 3] if at < 45 else KINDS[at % 2 * 2]
            lines.append(line(told, kind, comes + {"least": -1, "equal": 0, "most": 1}[kind] * rng.randint(0, 4)))
        costs = row(*[rng.randint(1, 9) for _ in range(40)])
        most = line([1] * 40, "most", 200)
        told = self.assert_solved(costs, [*lines, most], "end")
        value = Fraction(*told[1])
        self.assert_solved(costs, [*lines, (costs, "most", pair(value - Fraction(1, 1000)))], "nothing")
        self.assert_solved(costs, [*lines, (costs, "equal", pair(value))], "end", value)
        free = [(entries[:-1] + [(0, 1)], kind, right) for entries, kind, right in lines]
        self.assert_solved(costs[:-1] + [(-1, 1)], [*free, line([0] * 40, "least", -1)], "falls")


if __name__ == "__main__":
    unittest.main()
