import unittest

from buybook import book as module
from buybook.book import Book
from buybook.data import Data
from buybook.errors import BadText, BookError, NotAllowed, UnknownName
from buybook.market import parse_market
from samples import check_methods, inside, row

TEXT = "market goods bread wine end people ann bob cid as ann dan as bob end end"
PRICES, AMOUNTS = row(1, 2), row(3, 0)


def made_book():
    """Return a book with purchases of two tastes: ann's a, c, d and bob's b, e; d is cid's, e is dan's."""
    book = Book(parse_market(TEXT))
    book.buy("a", "ann", row(1, 2), row(3, 0))
    book.buy("b", "bob", row(2, 2), row(0, 1))
    book.buy("c", "ann", row(3, 2), row(1, 1))
    book.buy("d", "cid", row(4, "1/2"), row("1/3", 1))
    book.buy("e", "dan", row(5, 2), row(5, 1))
    return book


def state(book):
    """Return all that a book tells."""
    return (book.purchases(), book.statements(), [book.names(person) for person, _ in book.market.people],
            [inside(book.data(person)) for person, _ in book.market.people])


class BookCase(unittest.TestCase):
    def assert_refused(self, error, book, method, *passed):
        """The call raises just this error and leaves the book as it was."""
        before = state(book)
        with self.assertRaises(BookError) as caught:
            getattr(book, method)(*passed)
        self.assertIs(type(caught.exception), error, passed)
        self.assertEqual(state(book), before)
        return caught.exception

    def assert_bad_text(self, book, text, at):
        self.assertEqual(self.assert_refused(BadText, book, "say", text).at, at, text)


class Interface(BookCase):
    def test_names_and_arguments(self):
        check_methods(self, module, "Book", {
            "__init__": "market", "buy": "name person prices amounts", "forget": "name", "say": "text",
            "unsay": "index", "purchases": "", "statements": "", "names": "person", "data": "person"})

    def test_market(self):
        market = parse_market(TEXT)
        self.assertIs(Book(market).market, market)

    def test_an_empty_book(self):
        book = Book(parse_market(TEXT))
        self.assertEqual(state(book), ([], [], [[]] * 4, [(2, [], [])] * 4))

    def test_two_books_are_apart(self):
        market = parse_market(TEXT)
        first, second = Book(market), Book(market)
        first.buy("a", "ann", PRICES, AMOUNTS)
        first.say("well a as a")
        self.assertEqual((second.purchases(), second.statements()), ([], []))

    def test_calls_that_change_return_nothing(self):
        book = made_book()
        self.assertIs(book.buy("x", "ann", PRICES, AMOUNTS), None)
        self.assertIs(book.say("well x as a"), None)
        self.assertIs(book.unsay(0), None)
        self.assertIs(book.forget("x"), None)


class Buy(BookCase):
    def test_purchases_in_order(self):
        self.assertEqual(made_book().purchases(), [
            ("a", "ann", row(1, 2), row(3, 0)), ("b", "bob", row(2, 2), row(0, 1)),
            ("c", "ann", row(3, 2), row(1, 1)), ("d", "cid", row(4, "1/2"), row("1/3", 1)),
            ("e", "dan", row(5, 2), row(5, 1))])

    def test_names_of_people_and_goods(self):
        book = Book(parse_market(TEXT))
        for name in ["ann", "bread", "dan", "wine", "abcdefghijkl", "z9", "betters"]:
            book.buy(name, "ann" if len(book.purchases()) < 6 else "bob", PRICES, AMOUNTS)
        self.assertEqual(book.names("cid"), ["ann", "bread", "dan", "wine", "abcdefghijkl", "z9"])

    def test_one_and_four_goods(self):
        book = Book(parse_market("market goods a end people a end end"))
        book.buy("x", "a", row("1/9"), row("1/7"))
        self.assertEqual(book.purchases(), [("x", "a", row("1/9"), row("1/7"))])
        self.assert_refused(NotAllowed, book, "buy", "y", "a", row(1, 1), row(1, 1))
        book = Book(parse_market("market goods a b c d end people a end end"))
        book.buy("x", "a", row(1, 2, 3, 4), row(0, 0, 0, "1/5"))
        self.assertEqual(inside(book.data("a")), (4, [(row(1, 2, 3, 4), row(0, 0, 0, "1/5"))], []))

    def test_each_error_alone_and_two_at_once(self):
        """The faults stand in the order of the interface: of two, the first one is raised."""
        faults = [(0, name, NotAllowed) for name in ["", "end", "better", "abcdefghijklm", "1a", "aB", "a b", "a_"]]
        faults += [(1, person, UnknownName) for person in ["eve", "bread", "", "end"]]
        faults += [(2, prices, NotAllowed) for prices in
                   [[], row(1), row(1, 2, 3), row(0, 1), row(1, 0), row(-1, 1), row(1, "-1/9")]]
        faults += [(3, amounts, NotAllowed) for amounts in
                   [[], row(1), row(1, 2, 3), row(-1, 1), row(1, "-1/9"), row(0, 0)]]
        faults += [(0, "a", NotAllowed)]
        good = ["x", "ann", PRICES, AMOUNTS]
        for at, (place, wrong, error) in enumerate(faults):
            call = list(good)
            call[place] = wrong
            self.assert_refused(error, made_book(), "buy", *call)
            for other, also, _ in faults[at + 1:]:
                if other != place:
                    both = list(call)
                    both[other] = also
                    self.assert_refused(error, made_book(), "buy", *both)

    def test_a_name_that_is_no_name_and_a_stranger(self):
        self.assert_refused(NotAllowed, made_book(), "buy", "end", "eve", [], [])
        self.assert_refused(UnknownName, made_book(), "buy", "a", "eve", [], [])

    def test_lists_that_were_passed(self):
        book = Book(parse_market(TEXT))
        prices, amounts = row(1, 2), row(3, 4)
        book.buy("x", "ann", prices, amounts)
        prices[0] = (9, 1)
        amounts.clear()
        self.assertEqual(book.purchases(), [("x", "ann", row(1, 2), row(3, 4))])
        self.assertEqual(inside(book.data("ann")), (2, [(row(1, 2), row(3, 4))], []))

    def test_a_seventh_of_one_taste(self):
        book = made_book()
        for name in ["f", "g", "h"]:
            book.buy(name, "cid" if name == "g" else "ann", PRICES, AMOUNTS)
        self.assertEqual(book.names("ann"), ["a", "c", "d", "f", "g", "h"])
        self.assert_refused(NotAllowed, book, "buy", "i", "ann", PRICES, AMOUNTS)
        self.assert_refused(NotAllowed, book, "buy", "i", "cid", PRICES, AMOUNTS)
        self.assert_refused(UnknownName, book, "buy", "i", "eve", PRICES, AMOUNTS)
        book.buy("i", "bob", PRICES, AMOUNTS)
        book.forget("g")
        book.buy("j", "cid", PRICES, AMOUNTS)
        self.assertEqual(book.names("cid"), ["a", "c", "d", "f", "h", "j"])

    def test_a_thirteenth(self):
        book = Book(parse_market("market goods bread wine end people ann bob cid end end"))
        for many in range(12):
            book.buy(f"p{many}", ["ann", "bob", "cid"][many % 3], PRICES, AMOUNTS)
        self.assertEqual([len(book.names(person)) for person in ["ann", "bob", "cid"]], [4, 4, 4])
        for person in ["ann", "bob", "cid"]:
            self.assert_refused(NotAllowed, book, "buy", "x", person, PRICES, AMOUNTS)
        self.assert_refused(UnknownName, book, "buy", "x", "eve", PRICES, AMOUNTS)
        book.forget("p4")
        book.buy("x", "cid", PRICES, AMOUNTS)
        self.assertEqual(len(book.purchases()), 12)


class Forget(BookCase):
    def test_the_rest_keeps_its_order(self):
        book = made_book()
        book.forget("c")
        self.assertEqual([purchase[0] for purchase in book.purchases()], ["a", "b", "d", "e"])
        book.forget("a")
        self.assertEqual([purchase[0] for purchase in book.purchases()], ["b", "d", "e"])
        self.assertEqual((book.names("ann"), book.names("bob")), (["d"], ["b", "e"]))

    def test_a_name_can_be_taken_again(self):
        book = made_book()
        book.forget("a")
        book.buy("a", "dan", row(7, 7), row(0, 7))
        self.assertEqual((book.names("ann"), book.names("bob")), (["c", "d"], ["b", "e", "a"]))
        self.assertEqual(book.purchases()[-1], ("a", "dan", row(7, 7), row(0, 7)))

    def test_unknown(self):
        book = made_book()
        for name in ["f", "ann", "bread", "", "end", "A"]:
            self.assert_refused(UnknownName, book, "forget", name)
        book.forget("a")
        self.assert_refused(UnknownName, book, "forget", "a")

    def test_named_by_a_statement(self):
        for text in ["better a than c", "better c than a", "well a as c", "well d as a", "well a as a"]:
            book = made_book()
            book.say("well b as e")
            book.say(text)
            self.assert_refused(NotAllowed, book, "forget", "a")
            book.unsay(0)
            self.assert_refused(NotAllowed, book, "forget", "a")
            book.unsay(0)
            book.forget("a")
            self.assertEqual(book.names("ann"), ["c", "d"])


class Say(BookCase):
    def test_both_forms(self):
        book = made_book()
        book.say("better a than c")
        book.say("  well   d as    a ")
        book.say("better  e than e")
        book.say("better a than c")
        self.assertEqual(book.statements(), ["better a than c", "well d as a", "better e than e", "better a than c"])

    def test_purchases_with_odd_names(self):
        book = Book(parse_market(TEXT))
        book.buy("bread", "ann", PRICES, AMOUNTS)
        book.buy("thana", "cid", PRICES, AMOUNTS)
        book.say("better thana than bread")
        self.assertEqual(book.statements(), ["better thana than bread"])

    def test_wrong_words(self):
        for text, at in [
            ("", 0), ("   ", 0), ("Better a than c", 0), ("worse a than c", 0), ("a than c", 0), ("than a better c", 0),
            ("better", 1), ("well", 1), ("better x than c", 1), ("better ann than c", 1), ("better than c", 1),
            ("better better than c", 1), ("well A as c", 1), ("well wine as c", 1),
            ("better a", 2), ("well a  ", 2), ("better a as c", 2), ("well a than c", 2), ("better a c", 2),
            ("well a as", 3), ("better a than", 3), ("better a than x", 3), ("well a as as", 3), ("better a than ann", 3),
            ("better a than c c", 4), ("well a as c as d", 4), ("better a than c than", 4), ("well c as c %", 4),
            ("worse x as", 0), ("better x as", 1), ("well a than x y", 2), ("well a as x y", 3), ("well a\tas c", 1),
        ]:
            self.assert_bad_text(made_book(), text, at)

    def test_a_purchase_of_another_taste(self):
        for text in ["better a than b", "well b as a", "better e than d", "well d as e"]:
            self.assert_bad_text(made_book(), text, 3)
            self.assert_bad_text(made_book(), text + " more", 3)
        book = made_book()
        book.say("better a than d")
        book.say("well e as b")
        self.assertEqual(len(book.statements()), 2)

    def test_a_purchase_that_was_removed(self):
        book = made_book()
        book.forget("a")
        self.assert_bad_text(book, "better a than c", 1)
        self.assert_bad_text(book, "better c than a", 3)

    def test_a_seventh(self):
        book = made_book()
        for _ in range(6):
            book.say("well a as c")
        self.assert_refused(NotAllowed, book, "say", "well a as c")
        self.assert_refused(NotAllowed, book, "say", "better b than e")
        for text, at in [("", 0), ("better x than a", 1), ("well a as", 3), ("well a as b", 3), ("well a as c d", 4)]:
            self.assert_bad_text(book, text, at)
        book.unsay(5)
        book.say("better b than e")
        self.assertEqual(book.statements(), ["well a as c"] * 5 + ["better b than e"])
        self.assert_refused(NotAllowed, book, "say", "well a as c")


class Unsay(BookCase):
    def test_later_ones_move_up(self):
        book = made_book()
        for text in ["well a as a", "well a as c", "well a as d", "better b than e"]:
            book.say(text)
        book.unsay(1)
        self.assertEqual(book.statements(), ["well a as a", "well a as d", "better b than e"])
        book.unsay(1)
        book.unsay(0)
        self.assertEqual(book.statements(), ["better b than e"])
        book.unsay(0)
        self.assertEqual(book.statements(), [])

    def test_no_such_index(self):
        book = made_book()
        for index in [0, -1, 1]:
            self.assert_refused(NotAllowed, book, "unsay", index)
        book.say("well a as a")
        book.say("well a as c")
        for index in [2, 3, 100, -1, -2, -3, 10 ** 9999, -10 ** 9999]:
            self.assert_refused(NotAllowed, book, "unsay", index)


class Told(BookCase):
    def test_persons_of_one_taste_alike(self):
        book = made_book()
        book.say("better a than d")
        self.assertEqual(book.names("ann"), ["a", "c", "d"])
        self.assertEqual(book.names("cid"), ["a", "c", "d"])
        self.assertEqual(book.names("dan"), ["b", "e"])
        self.assertEqual(inside(book.data("cid")), inside(book.data("ann")))
        self.assertEqual(inside(book.data("bob")), inside(book.data("dan")))

    def test_data(self):
        book = made_book()
        for text in ["well d as a", "better b than e", "better a than c", "well a as a", "better d than d", "well d as a"]:
            book.say(text)
        data = book.data("ann")
        self.assertIs(type(data), Data)
        self.assertEqual(inside(data), (2, [
            (row(1, 2), row(3, 0)), (row(3, 2), row(1, 1)), (row(4, "1/2"), row("1/3", 1))],
            [(2, 0, False), (0, 1, True), (0, 0, False), (2, 2, True), (2, 0, False)]))
        self.assertEqual(inside(book.data("bob")), (2, [(row(2, 2), row(0, 1)), (row(5, 2), row(5, 1))], [(0, 1, True)]))

    def test_data_behind_what_was_removed(self):
        book = made_book()
        for text in ["well c as d", "better d than c", "better e than b"]:
            book.say(text)
        book.forget("a")
        self.assertEqual(book.data("cid").links, [(0, 1, False), (1, 0, True)])
        book.unsay(0)
        book.buy("a", "ann", PRICES, AMOUNTS)
        book.say("better a than d")
        self.assertEqual(book.names("ann"), ["c", "d", "a"])
        self.assertEqual(book.data("ann").links, [(1, 0, True), (2, 1, True)])
        self.assertEqual(book.data("bob").links, [(1, 0, True)])

    def test_unknown_people(self):
        book = made_book()
        for person in ["eve", "bread", "a", "", "people", "Ann"]:
            self.assert_refused(UnknownName, book, "names", person)
            self.assert_refused(UnknownName, book, "data", person)

    def test_a_person_without_purchases(self):
        book = Book(parse_market(TEXT))
        book.buy("a", "ann", PRICES, AMOUNTS)
        self.assertEqual(book.names("dan"), [])
        self.assertEqual(inside(book.data("bob")), (2, [], []))
        self.assertEqual(book.names("cid"), ["a"])

    def test_what_is_returned_is_new(self):
        book = made_book()
        book.say("better a than d")
        before = state(book)
        for _, _, prices, amounts in book.purchases():
            prices[0] = (99, 1)
            amounts.clear()
        book.purchases().clear()
        book.statements().append("well a as a")
        book.names("ann").clear()
        data = book.data("ann")
        data.links.append((0, 0, True))
        data.buys[0][0][0] = (99, 1)
        data.buys[1][1].clear()
        data.buys.clear()
        self.assertEqual(state(book), before)
        told = inside(book.data("ann"))
        held = book.data("ann")
        book.unsay(0)
        book.forget("a")
        book.buy("z", "ann", PRICES, AMOUNTS)
        self.assertEqual(inside(held), told)


if __name__ == "__main__":
    unittest.main()
