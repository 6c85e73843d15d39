import copy
import random
import unittest
from fractions import Fraction

from buybook import desk as module
from buybook.book import Book
from buybook.desk import Desk, replay
from buybook.ends import judge_paper, judge_strict_paper, least
from buybook.errors import BadText, BookError, NotAllowed, UnknownName
from buybook.market import parse_market
from buybook.reach import reached
from samples import check_functions, check_methods, cost_of, pair, row

LITTLE = Fraction(1, 10 ** 12)
MARKET = "market goods bread wine end people ann bob as ann cid end end"
# 7 were spent on it; at the prices (3, 2) its amounts cost 8.
BUY_A = ("buy", "a", "ann", row(2, 3), row(2, 1))
# 3 were spent on it; at the prices (3, 2) its amounts cost 3. It does not lead to a, but a leads to it strictly.
BUY_B = ("buy", "b", "bob", row(3, 4), row(1, 0))
BUY_C = ("buy", "c", "cid", row(1, 1), row(1, 1))
# The least of the second good for 9 at (3, 2): near 3/5 if a is reached.
ASK = ("ask", "q", "ann", row(3, 2), (9, 1), row(0, 1))


def made_desk(*entries):
    desk = Desk(parse_market(MARKET))
    for entry in entries:
        desk.do(entry)
    return desk


def asked(name, **changed):
    """Return an `ask` that is taken, but for what is changed."""
    parts = {"person": "ann", "prices": row(3, 2), "money": (9, 1), "weights": row(0, 1), **changed}
    return ("ask", name, parts["person"], parts["prices"], parts["money"], parts["weights"])


class DeskCase(unittest.TestCase):
    def state(self, desk):
        return desk.standing(), desk.journal()

    def assert_refused(self, desk, entry, kind, at=None):
        """The entry is refused by all that takes one, by its own error first, and the desk is as it was."""
        before = self.state(desk)
        passed = copy.deepcopy(entry)
        for told in [lambda: desk.do(entry), lambda: desk.changes(entry),
                     lambda: desk.touches(entry, "ann", row(3, 2), (9, 1), ((1, 1), [])),
                     lambda: desk.touches(entry, "nobody", row(3, 2), (9, 1), ((1, 1), []))]:
            with self.assertRaises(BookError) as caught:
                told()
            self.assertIs(type(caught.exception), kind)
            if at is not None:
                self.assertEqual(caught.exception.at, at)
        self.assertEqual(self.state(desk), before)
        self.assertEqual(entry, passed)

    def assert_changes(self, desk, entry, expected):
        """What is told is what `standing` says before and behind the entry, which is then taken."""
        state = self.state(desk)
        told = desk.changes(entry)
        self.assertEqual(self.state(desk), state)
        before = desk.standing()
        desk.do(entry)
        after = dict(desk.standing())
        self.assertEqual(told, [(name, answer, after[name]) for name, answer in before
                                if name in after and after[name] != answer])
        self.assertEqual([name for name, _, _ in told], expected)
        return told


class Do(DeskCase):
    def test_names_and_arguments(self):
        check_functions(self, module, {"replay": "market journal"})
        check_methods(self, module, "Desk", {
            "__init__": "market", "do": "entry", "standing": "", "changes": "entry",
            "touches": "entry person prices money paper",
            "judge_named_paper": "person prices money weights value paper", "journal": ""})

    def test_each_kind_of_entry(self):
        desk = made_desk()
        entries = [BUY_A, BUY_B, ("say", "better  a than b "), ASK, asked("r", weights=row(1, 0)), ("unsay", 0),
                   ("forget", "a"), ("drop", "q")]
        answers = [[], [], [], [("q", ("near", (3, 5)))], [("q", ("near", (3, 5))), ("r", ("met", (0, 1)))],
                   [("q", ("near", (3, 5))), ("r", ("met", (0, 1)))], [("q", ("met", (0, 1))), ("r", ("met", (0, 1)))],
                   [("r", ("met", (0, 1)))]]
        for k, entry in enumerate(entries):
            self.assertIsNone(desk.do(entry))
            self.assertEqual(desk.standing(), answers[k])
            self.assertEqual(desk.journal(), entries[:k + 1])

    def test_errors_of_the_book(self):
        desk = made_desk(BUY_A, BUY_B, BUY_C, ("say", "better a than b"), ASK)
        prices, amounts = row(1, 1), row(1, 1)
        for entry, kind, at in [
            (("buy", "Bad", "nobody", prices, amounts), NotAllowed, None),
            (("buy", "d", "nobody", row(1), amounts), UnknownName, None),
            (("buy", "d", "ann", row(1), amounts), NotAllowed, None),
            (("buy", "d", "ann", row(0, 1), amounts), NotAllowed, None),
            (("buy", "d", "ann", prices, row(1)), NotAllowed, None),
            (("buy", "d", "ann", prices, row(0, 0)), NotAllowed, None),
            (("buy", "d", "ann", prices, row(-1, 1)), NotAllowed, None),
            (("buy", "a", "cid", prices, amounts), NotAllowed, None),
            (("forget", "z"), UnknownName, None), (("forget", "a"), NotAllowed, None),
            (("forget", "q"), UnknownName, None),
            (("say", ""), BadText, 0), (("say", "worse a than b"), BadText, 0), (("say", "well z as a"), BadText, 1),
            (("say", "well a than b"), BadText, 2), (("say", "well a as c"), BadText, 3),
            (("say", "well a as"), BadText, 3), (("say", "better a than b b"), BadText, 4),
            (("unsay", 1), NotAllowed, None), (("unsay", -1), NotAllowed, None),
        ]:
            self.assert_refused(desk, entry, kind, at)

    def test_full_books(self):
        desk = made_desk(*[("buy", f"a{k}", "ann", row(1, 1), row(1, k)) for k in range(6)])
        self.assert_refused(desk, ("buy", "b", "bob", row(1, 1), row(1, 1)), NotAllowed)
        for k in range(6):
            desk.do(("buy", f"c{k}", "cid", row(1, 1), row(1, k)))
            desk.do(("say", f"well c{k} as c0"))
        self.assert_refused(desk, ("buy", "c6", "cid", row(1, 1), row(1, 1)), NotAllowed)
        self.assert_refused(desk, ("say", "well c1 as c1"), NotAllowed)
        self.assert_refused(desk, ("say", "well c1 as"), BadText, 3)

    def test_errors_of_ask(self):
        desk = made_desk(BUY_A, ASK)
        for wrong in ["", "end", "Q", "1q", "q q", "abcdefghijklm", "q-"]:
            self.assert_refused(desk, asked(wrong), NotAllowed)
        for changed in [{"prices": row(3)}, {"prices": row(3, 2, 1)}, {"prices": []}, {"prices": row(3, 0)},
                        {"prices": row(-3, 2)}, {"money": (0, 1)}, {"money": (-1, 9)}, {"weights": row(1)},
                        {"weights": row(1, 2, 3)}, {"weights": []}]:
            self.assert_refused(desk, asked("r", **changed), NotAllowed)
            self.assert_refused(desk, asked("q", **changed), NotAllowed)
            # Where there is no such person, this is said first; where the name is not a name, that.
            self.assert_refused(desk, asked("r", person="nobody", **changed), UnknownName)
            self.assert_refused(desk, asked("R", person="nobody", **changed), NotAllowed)
        for person in ["nobody", "", "Ann", "a", "q", "bread"]:
            self.assert_refused(desk, asked("r", person=person), UnknownName)
            self.assert_refused(desk, asked("end", person=person), NotAllowed)
        desk.do(asked("abcdefghijkl", person="bob", weights=row(-1, 0), money=pair(LITTLE)))
        desk.do(asked("bread", person="cid"))
        desk.do(asked("ann", weights=row(0, 0)))
        self.assertEqual([name for name, _ in desk.standing()], ["q", "abcdefghijkl", "bread", "ann"])

    def test_eight_questions(self):
        desk = made_desk(BUY_A, *[asked(f"q{k}", money=(k + 1, 1)) for k in range(8)])
        names = [f"q{k}" for k in range(8)]
        self.assertEqual([name for name, _ in desk.standing()], names)
        self.assert_refused(desk, asked("q8"), NotAllowed)
        self.assert_refused(desk, asked("q8", person="nobody"), UnknownName)
        self.assert_refused(desk, asked("q3", person="nobody"), UnknownName)
        # A name that stands is replaced in its place.
        desk.do(asked("q3", weights=row(-1, 0)))
        self.assertEqual([name for name, _ in desk.standing()], names)
        self.assertEqual(desk.standing()[3], ("q3", ("near", (-13, 5))))
        # Dropped and asked again it stands last.
        desk.do(("drop", "q3"))
        desk.do(asked("q3"))
        self.assertEqual([name for name, _ in desk.standing()], names[:3] + names[4:] + ["q3"])
        desk.do(("drop", "q0"))
        desk.do(asked("q8"))
        self.assertEqual([name for name, _ in desk.standing()], ["q1", "q2", "q4", "q5", "q6", "q7", "q3", "q8"])
        self.assert_refused(desk, asked("q0"), NotAllowed)

    def test_errors_of_drop(self):
        desk = made_desk(BUY_A, ASK)
        for name in ["a", "r", "", "ann", "Q"]:
            self.assert_refused(desk, ("drop", name), UnknownName)
        desk.do(("drop", "q"))
        self.assert_refused(desk, ("drop", "q"), UnknownName)

    def test_two_hundred_entries(self):
        desk = made_desk(BUY_A, *[asked("q", money=(k + 1, 1)) for k in range(199)])
        before = self.state(desk)
        self.assertEqual(len(desk.journal()), 200)
        for entry in [ASK, ("drop", "q"), BUY_B, ("forget", "a"), ("say", "well a as a")]:
            with self.assertRaises(NotAllowed):
                desk.do(entry)
            self.assertEqual(self.state(desk), before)
        # An entry that is refused for another reason raises that.
        for entry, kind, at in [(("drop", "z"), UnknownName, None), (("forget", "z"), UnknownName, None),
                                (("say", "well a"), BadText, 2), (asked("r", person="nobody"), UnknownName, None)]:
            self.assert_refused(desk, entry, kind, at)
        # The limit is not one of what is only asked.
        self.assertEqual(desk.changes(ASK), [("q", desk.standing()[0][1], ("near", (3, 5)))])
        self.assertIs(desk.touches(("forget", "a"), "ann", row(3, 2), (9, 1), ((-2, 1), [("a", (3, 1))])), True)
        self.assertEqual(self.state(desk), before)
        self.assertEqual(self.state(replay(parse_market(MARKET), desk.journal())), before)

    def test_the_last_entry_that_is_taken(self):
        desk = made_desk(BUY_A, *[asked("q", money=(k + 1, 1)) for k in range(198)])
        desk.do(ASK)
        self.assertEqual(desk.standing(), [("q", ("near", (3, 5)))])
        with self.assertRaises(NotAllowed):
            desk.do(ASK)

    def test_what_was_passed_is_copied(self):
        buy, ask = copy.deepcopy(BUY_A), copy.deepcopy(ASK)
        desk = made_desk(buy, ask)
        before = copy.deepcopy(self.state(desk))
        for part in [*buy, *ask]:
            if isinstance(part, list):
                part[0] = (1, 7)
                part.append((5, 1))
        self.assertEqual(self.state(desk), before)
        self.assertEqual(desk.standing(), [("q", ("near", (3, 5)))])
        self.assertEqual(desk.journal(), [BUY_A, ASK])

    def test_what_was_passed_is_as_it_was(self):
        entries = [BUY_A, BUY_B, ASK, ("say", "well a as b"), ("unsay", 0), ("forget", "a"), ("drop", "q")]
        passed = copy.deepcopy(entries)
        desk = made_desk(*entries)
        desk.changes(BUY_A)
        self.assertEqual(entries, passed)


class Standing(DeskCase):
    def test_nothing_stands(self):
        self.assertEqual(made_desk().standing(), [])
        self.assertEqual(made_desk(BUY_A).standing(), [])

    def test_each_kind_of_answer(self):
        desk = made_desk(ASK, asked("w", weights=row(1, 0)), asked("c", person="cid"))
        met = ("met", (0, 1))
        self.assertEqual(desk.standing(), [("q", met), ("w", met), ("c", met)])
        desk.do(BUY_A)
        self.assertEqual(desk.standing(), [("q", ("near", (3, 5))), ("w", met), ("c", met)])
        desk.do(("say", "better a than a"))
        self.assertEqual(desk.standing(), [("q", ("ring",)), ("w", ("ring",)), ("c", met)])
        desk.do(("unsay", 0))
        self.assertEqual(desk.standing(), [("q", ("near", (3, 5))), ("w", met), ("c", met)])
        desk.do(("forget", "a"))
        self.assertEqual(desk.standing(), [("q", met), ("w", met), ("c", met)])

    def test_people_of_one_taste(self):
        desk = made_desk(BUY_A, asked("b", person="bob"), asked("a"), asked("c", person="cid"))
        self.assertEqual(desk.standing(), [("b", ("near", (3, 5))), ("a", ("near", (3, 5))), ("c", ("met", (0, 1)))])

    def test_new_lists_each_time(self):
        desk = made_desk(BUY_A, ASK)
        desk.standing().clear()
        self.assertEqual(desk.standing(), [("q", ("near", (3, 5)))])
        told = desk.changes(("forget", "a"))
        told.clear()
        self.assertEqual(len(desk.changes(("forget", "a"))), 1)


class Changes(DeskCase):
    def test_purchases_and_statements(self):
        desk = made_desk(asked("w", weights=row(1, 0)), ASK, asked("c", person="cid"), asked("v", weights=row(-1, 0)))
        met, near = ("met", (0, 1)), ("near", (3, 5))
        told = self.assert_changes(desk, BUY_A, ["q", "v"])
        self.assertEqual(told, [("q", met, near), ("v", ("met", (-3, 1)), ("near", (-13, 5)))])
        self.assert_changes(desk, BUY_B, [])
        self.assert_changes(desk, BUY_C, [])
        self.assert_changes(desk, ("buy", "d", "cid", row(1, 3), row(1, 1)), ["c"])
        self.assert_changes(desk, ("say", "well a as b"), [])
        told = self.assert_changes(desk, ("say", "better a than a"), ["w", "q", "v"])
        self.assertEqual(told[0], ("w", met, ("ring",)))
        self.assert_changes(desk, ("unsay", 0), [])
        self.assert_changes(desk, ("unsay", 0), ["w", "q", "v"])
        told = self.assert_changes(desk, ("forget", "a"), ["q", "v"])
        self.assertEqual(told[0], ("q", near, met))

    def test_met_and_near_of_the_same_value(self):
        # 4 buy just d at (1, 1), and e is reached by what is said of it.
        desk = made_desk(("buy", "d", "ann", row(1, 3), row(4, 0)), ("buy", "e", "ann", row(3, 1), row(1, 4)),
                         asked("q", prices=row(1, 1), money=(4, 1), weights=row(1, 0)))
        self.assert_changes(desk, ("say", "well d as e"), ["q"])
        told = self.assert_changes(desk, ("say", "better d than e"), ["q"])
        self.assertEqual(told, [("q", ("met", (3, 2)), ("near", (3, 2)))])
        told = self.assert_changes(desk, ("unsay", 1), ["q"])

    def test_a_question_that_is_replaced_or_new_or_dropped(self):
        desk = made_desk(BUY_A, ASK, asked("w", weights=row(1, 0)))
        self.assert_changes(desk, asked("r", weights=row(5, 5)), [])
        told = self.assert_changes(desk, asked("q", weights=row(1, 0)), ["q"])
        self.assertEqual(told, [("q", ("near", (3, 5)), ("met", (0, 1)))])
        self.assert_changes(desk, asked("q", money=(100, 1), weights=row(2, 0)), [])
        self.assert_changes(desk, asked("q", person="cid", weights=row(0, 3)), [])
        self.assert_changes(desk, ("drop", "q"), [])
        self.assert_changes(desk, ("drop", "w"), [])

    def test_errors(self):
        desk = made_desk(BUY_A, ASK)
        self.assert_refused(desk, ("drop", "r"), UnknownName)
        self.assert_refused(desk, ("say", "well a"), BadText, 2)

    def test_made_entries(self):
        rng = random.Random(19)
        changed = 0
        for _ in range(25):
            desk = made_desk()
            for _ in range(25):
                entry = made_entry(rng)
                try:
                    expected = desk.changes(entry)
                except BookError as error:
                    self.assert_refused(desk, entry, type(error), getattr(error, "at", None))
                else:
                    self.assert_changes(desk, entry, [name for name, _, _ in expected])
                    changed += len(expected)
            self.assertEqual(self.state(replay(parse_market(MARKET), desk.journal())), self.state(desk))
        self.assertGreater(changed, 40)


def made_entry(rng):
    names, people = ["a", "b", "d", "e"], ["ann", "bob", "cid", "ann", "nobody"]
    name, person = rng.choice(names), rng.choice(people)
    kind = rng.choice(["buy", "buy", "forget", "say", "unsay", "ask", "ask", "drop"])
    if kind == "buy":
        prices, amounts = [row(rng.randint(low, 3), rng.randint(low, 3)) for low in (1, 0)]
        return ("buy", name, person, prices, amounts)
    if kind == "say":
        word, between = rng.choice([("better", "than"), ("well", "as"), ("well", "than")])
        return ("say", f"{word} {name} {between} {rng.choice(names)}")
    if kind == "ask":
        return ("ask", name, person, row(rng.randint(1, 3), rng.randint(1, 3)), (rng.randint(1, 9), 1),
                row(rng.randint(-1, 2), rng.randint(-1, 2)))
    return (kind, rng.randint(0, 2) if kind == "unsay" else name)


class Touches(DeskCase):
    paper = ((-2, 1), [("a", (3, 1))])

    def assert_touches(self, desk, entry, expected, paper=None, person="ann", money=(9, 1)):
        paper = paper or self.paper
        before, passed = self.state(desk), copy.deepcopy((entry, paper))
        self.assertIs(desk.touches(entry, person, row(3, 2), money, paper), expected)
        self.assertEqual((self.state(desk), (entry, paper)), (before, passed))

    def test_a_purchase_that_is_gone(self):
        desk = made_desk(BUY_A, BUY_B, BUY_C, ASK)
        self.assert_touches(desk, ("forget", "a"), True)
        self.assert_touches(desk, ("forget", "a"), True, person="bob")
        self.assert_touches(desk, ("forget", "b"), False)
        self.assert_touches(desk, ("forget", "c"), False)
        both = ((0, 1), [("b", (1, 1)), ("a", (1, 9))])
        self.assert_touches(desk, ("forget", "a"), True, both)
        self.assert_touches(desk, ("forget", "b"), True, both)
        self.assert_touches(desk, ("forget", "c"), False, both)

    def test_row_prices_of_zero_and_names_that_are_not_listed(self):
        desk = made_desk(BUY_A, BUY_B, ASK)
        for paper in [((3, 1), []), ((3, 1), [("a", (0, 1))]), ((3, 1), [("a", (0, 1)), ("b", (0, 1))]),
                      ((3, 1), [("a", (0, 1)), ("b", (1, 1))])]:
            self.assert_touches(desk, ("forget", "a"), False, paper)
        self.assert_touches(desk, ("forget", "a"), True, ((3, 1), [("b", (0, 1)), ("a", pair(LITTLE))]))
        self.assert_touches(desk, ("forget", "a"), True, ((3, 1), [("a", pair(-LITTLE))]))

    def test_a_purchase_that_is_no_longer_reached(self):
        # At (3, 2), 8 buy a; e costs 40 there, and a leads to it only by a statement.
        e = ("buy", "e", "ann", row(1, 4), row(10, 5))
        desk = made_desk(BUY_A, e, ("say", "well a as a"), ("say", "well a as e"), ASK)
        paper = ((0, 1), [("e", (1, 1))])
        self.assert_touches(desk, ("unsay", 1), True, paper, money=(8, 1))
        self.assert_touches(desk, ("unsay", 0), False, paper, money=(8, 1))
        self.assert_touches(desk, ("unsay", 1), False, self.paper, money=(8, 1))
        self.assert_touches(desk, ("unsay", 1), False, paper, money=(40, 1))
        self.assert_touches(desk, ("unsay", 1), True, paper, money=pair(40 - LITTLE))
        # A purchase by which another one is reached can go, too.
        chain = made_desk(("buy", "a", "ann", row(2, 9), row(1, 0)), ("buy", "e", "ann", row(9, 2), row("1/2", "1/9")))
        paper = ((0, 1), [("e", (1, 1))])
        near = row(1, 100)
        for entry, money, expected in [(("forget", "a"), (1, 1), True), (("forget", "a"), (100, 1), False),
                                       (BUY_B, (1, 1), False), (("say", "well e as a"), (1, 1), False)]:
            self.assertIs(chain.touches(entry, "ann", near, money, paper), expected)

    def test_entries_that_can_not_touch(self):
        desk = made_desk(BUY_A, ASK)
        for entry in [BUY_B, BUY_C, ("say", "better a than a"), ("say", "well a as a"), asked("r"), asked("q"),
                      ("drop", "q")]:
            self.assert_touches(desk, entry, False)

    def test_errors(self):
        desk = made_desk(BUY_A, ASK)
        for entry in [BUY_B, ("forget", "a"), ("drop", "q"), asked("r")]:
            with self.assertRaises(UnknownName):
                desk.touches(entry, "nobody", row(3, 2), (9, 1), self.paper)
        # assert_refused asks with a person that there is not, too.
        for entry, kind, at in [(BUY_A, NotAllowed, None), (("say", "well a as"), BadText, 3),
                                (("unsay", 0), NotAllowed, None), (asked("end"), NotAllowed, None)]:
            self.assert_refused(desk, entry, kind, at)

    def test_made_papers(self):
        """Papers that are accepted and not touched are accepted afterwards; only two kinds of entries touch any."""
        rng = random.Random(20)
        seen = {}
        for _ in range(120):
            desk = made_desk()
            for _ in range(14):
                entry = made_entry(rng)
                book = book_of(desk)
                money = (rng.randint(1, 12), 1)
                if book.purchases():
                    bought = rng.choice(book.purchases())
                    money = pair(cost_of(row(3, 2), bought[3]) + rng.randint(0, 1))
                    entry = rng.choice([entry, entry, ("forget", bought[0])])
                weights = row(*rng.choice([(1, -1), (-1, 1), (1, 0), (0, 1), (2, 1)]))
                told = least(book.data("ann"), row(3, 2), money, weights)
                try:
                    desk.changes(entry)
                except BookError:
                    continue
                if told[0] != "ring":
                    named = (told[-1][0], list(zip(book.names("ann"), told[-1][1])))
                    asked_for = ("ann", row(3, 2), money, weights, told[1], named)
                    self.assertIs(desk.judge_named_paper(*asked_for), True)
                    touched = desk.touches(entry, "ann", row(3, 2), money, named)
                    self.assertTrue(entry[0] in ("forget", "unsay") or not touched)
                    desk.do(entry)
                    found = desk.judge_named_paper(*asked_for)
                    self.assertTrue(touched or found)
                    # A price for what is gone or not reached is enough to refuse it.
                    self.assertEqual(found, not touched)
                    seen[entry[0], touched] = seen.get((entry[0], touched), 0) + 1
                else:
                    desk.do(entry)
        self.assertGreater(seen["forget", True], 5, seen)


def book_of(desk):
    """Return a book that took what the desk's book did."""
    book = Book(parse_market(MARKET))
    for entry in desk.journal():
        if entry[0] in ("buy", "forget", "say", "unsay"):
            getattr(book, entry[0])(*entry[1:])
    return book


class NamedPapers(DeskCase):
    def assert_judged(self, expected, desk, weights, value, paper, person="ann", money=(9, 1)):
        before, passed = self.state(desk), copy.deepcopy((weights, paper))
        self.assertIs(desk.judge_named_paper(person, row(3, 2), money, weights, pair(value), paper), expected)
        self.assertEqual((self.state(desk), (weights, paper)), (before, passed))

    def test_as_by_number(self):
        desk = made_desk(BUY_B, BUY_C, BUY_A)
        # The data of ann are b and a.
        for pairs, row_prices in [([("a", (3, 1))], (0, 3)), ([("b", (0, 1)), ("a", (3, 1))], (0, 3)),
                                  ([("a", (3, 1)), ("b", (0, 1))], (0, 3)), ([("b", (1, 2))], ("1/2", 0)), ([], (0, 0)),
                                  ([("a", (1, 1)), ("b", (1, 2))], ("1/2", 1)), ([("a", (-1, 1))], (0, -1))]:
            for weights, value in [((0, 5), 3), ((0, 5), 3 + LITTLE), ((0, 5 - LITTLE), 3), ((9, 9), -20), ((9, 9), 0)]:
                data = book_of(desk).data("ann")
                expected = judge_paper(data, row(3, 2), (9, 1), row(*weights), pair(value), ((-2, 1), row(*row_prices)))
                self.assert_judged(expected, desk, row(*weights), value, ((-2, 1), pairs))
                self.assert_judged(expected, desk, row(*weights), value, ((-2, 1), pairs), person="bob")
        self.assert_judged(True, desk, row(0, 5), 3, ((-2, 1), [("a", (3, 1))]))
        self.assert_judged(False, desk, row(0, 5), 3 + LITTLE, ((-2, 1), [("a", (3, 1))]))

    def test_a_purchase_that_is_gone_or_not_reached(self):
        desk = made_desk(BUY_A, BUY_C)
        paper = ((-2, 1), [("a", (3, 1))])
        self.assert_judged(True, desk, row(0, 5), 3, paper)
        self.assert_judged(False, desk, row(0, 5), 3, paper, money=pair(8 - LITTLE))
        self.assert_judged(False, desk, row(0, 5), 3, paper, person="cid")
        desk.do(("forget", "a"))
        self.assert_judged(False, desk, row(0, 5), 3, paper)

    def test_names_that_are_not_of_the_person(self):
        desk = made_desk(BUY_A, BUY_C)
        for name in ["c", "z", "q", ""]:
            self.assert_judged(False, desk, row(9, 9), -100, ((1, 1), [(name, (1, 1))]))
            self.assert_judged(False, desk, row(9, 9), -100, ((1, 1), [("a", (1, 1)), (name, pair(-LITTLE))]))
            self.assert_judged(True, desk, row(9, 9), -100, ((1, 1), [(name, (0, 1))]))
            self.assert_judged(True, desk, row(9, 9), -100, ((1, 1), [(name, (0, 1)), ("a", (1, 1))]))

    def test_a_name_that_is_listed_twice(self):
        desk = made_desk(BUY_A)
        self.assert_judged(True, desk, row(9, 9), -100, ((1, 1), [("a", (1, 1))]))
        self.assert_judged(False, desk, row(9, 9), -100, ((1, 1), [("a", (1, 1)), ("a", (1, 1))]))

    def test_lists_of_the_wrong_length(self):
        desk = made_desk(BUY_A)
        for prices, weights in [(row(3), row(9, 9)), (row(3, 2), row(9)), (row(3, 2), row(9, 9, 9))]:
            self.assertIs(desk.judge_named_paper("ann", prices, (9, 1), weights, (-1, 1), ((1, 1), [])), False)

    def test_a_ring(self):
        desk = made_desk(BUY_A, ("say", "better a than a"))
        self.assert_judged(True, desk, row(0, 5), 3, ((-2, 1), [("a", (3, 1))]))

    def test_unknown_person(self):
        desk = made_desk(BUY_A)
        for paper in [((1, 1), []), ((1, 1), [("z", (1, 1))]), ((1, 1), [("a", (1, 1)), ("a", (1, 1))])]:
            with self.assertRaises(UnknownName):
                desk.judge_named_paper("nobody", row(3, 2), (9, 1), row(1, 1), (0, 1), paper)


class Journals(DeskCase):
    entries = [BUY_A, ASK, BUY_B, ("say", "well  a as b"), asked("r", person="bob", weights=row(-1, 0)), BUY_C,
               ("unsay", 0), ("drop", "q"), ("forget", "b"), ASK]

    def test_refused_entries_are_not_in_it(self):
        desk = made_desk()
        for entry in self.entries:
            for wrong in [("forget", "z"), ("unsay", 7), ("drop", "z"), ("say", "a"), asked("Q")]:
                with self.assertRaises(BookError):
                    desk.do(wrong)
            desk.do(entry)
        self.assertEqual(desk.journal(), self.entries)

    def test_replaying(self):
        for many in range(len(self.entries) + 1):
            desk = made_desk(*self.entries[:many])
            journal = desk.journal()
            again = replay(parse_market(MARKET), journal)
            self.assertIsInstance(again, Desk)
            self.assertEqual(self.state(again), self.state(desk))
            self.assertEqual(journal, self.entries[:many])
            for entry in [("forget", "a"), BUY_B, ("say", "well a as b"), ("drop", "r"), asked("q", person="bob")]:
                told = []
                for each in [desk, again]:
                    try:
                        told.append(each.changes(entry))
                    except BookError as error:
                        told.append(type(error))
                self.assertEqual(told[0], told[1])
            # Each goes on by itself.
            again.do(asked("new"))
            self.assertEqual(desk.journal(), self.entries[:many])

    def test_an_entry_that_is_refused(self):
        for wrong, kind, at in [(("forget", "z"), UnknownName, None), (("unsay", 0), NotAllowed, None),
                                (("say", "well a as"), BadText, 3), (asked("q", money=(0, 1)), NotAllowed, None),
                                (("drop", "z"), UnknownName, None)]:
            with self.assertRaises(BookError) as caught:
                replay(parse_market(MARKET), [BUY_A, wrong, ("drop", "never")])
            self.assertIs(type(caught.exception), kind)
            self.assertEqual(getattr(caught.exception, "at", None), at)
        with self.assertRaises(NotAllowed):
            replay(parse_market(MARKET), [asked("q", money=(k + 1, 1)) for k in range(201)])
        self.assertEqual(len(replay(parse_market(MARKET), [ASK] * 200).journal()), 200)

    def test_what_is_returned_is_new(self):
        desk = made_desk(BUY_A, ASK)
        for _ in range(2):
            journal = desk.journal()
            for entry in journal:
                self.assertIs(type(entry), tuple)
                for part in entry:
                    if isinstance(part, list):
                        part[0] = (1, 9)
                        part.append((1, 1))
            journal.clear()
            self.assertEqual(desk.journal(), [BUY_A, ASK])
            self.assertEqual(desk.standing(), [("q", ("near", (3, 5)))])

    def test_the_example_is_what_it_says(self):
        book = book_of(made_desk(BUY_A, BUY_B))
        self.assertEqual(reached(book.data("ann"), row(3, 2), (9, 1)), [True, True])
        told = least(book.data("ann"), row(3, 2), (9, 1), row(0, 1))
        self.assertTrue(judge_strict_paper(book.data("ann"), row(3, 2), (9, 1), row(0, 1), told[1], told[-1]))


if __name__ == "__main__":
    unittest.main()
