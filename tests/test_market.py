import itertools
import unittest

from buybook import market as module
from buybook.errors import BadText, UnknownName
from buybook.market import Market, format_market, head_of, parse_market
from samples import check_functions, check_methods

EXAMPLE = "market goods bread wine end people ann bob as ann end end"
FOUR = "market goods a b c d end people e f as e g h as g end end"
KEPT = ["market", "goods", "people", "end", "as", "better", "well", "than"]
WRONG_NAMES = [*KEPT, "abcdefghijklm", "a23456789abcd", "Bread", "bReaD", "1bread", "9", "_bread", "-b", "br-ead",
               "b_d", "b.d", "~", "b!", "(b", "a,b", "a:", "a/b", "b%", "a\tb", "a\n", "b\u00e9", "\u0661", "a\u0661"]


def said_people(names):
    """Yield for each row of people that parsing accepts its words and the people that they say."""
    def grow(words, people):
        if people:
            yield words, list(people.items())
        for name in names:
            if name in people:
                continue
            yield from grow([*words, name], {**people, name: name})
            for other in [*people, name]:
                yield from grow([*words, name, "as", other], {**people, name: people.get(other, name)})
    return grow([], {})


def said_goods(names):
    for many in range(1, len(names) + 1):
        yield from itertools.permutations(names, many)


class MarketCase(unittest.TestCase):
    def assert_bad(self, text, at):
        with self.assertRaises(BadText) as caught:
            parse_market(text)
        self.assertEqual(caught.exception.at, at, text)

    def assert_market(self, text, goods, people):
        market = parse_market(text)
        self.assertIs(type(market), Market)
        self.assertEqual((market.goods, market.people), (goods, people), text)


class Interface(MarketCase):
    def test_names_and_arguments(self):
        check_functions(self, module, {"parse_market": "text", "format_market": "market",
                                       "head_of": "market person"})
        check_methods(self, module, "Market", {"__init__": "goods people"})

    def test_example_of_the_document(self):
        self.assertEqual(format_market(parse_market(EXAMPLE)), EXAMPLE)

    def test_lists_are_copied(self):
        goods, people = ["bread"], [("ann", "ann")]
        market = Market(goods, people)
        goods.append("wine")
        people.append(("bob", "ann"))
        self.assertEqual((market.goods, market.people), (["bread"], [("ann", "ann")]))
        self.assertEqual(format_market(market), "market goods bread end people ann end end")

    def test_a_new_market_each_time(self):
        first, second = parse_market(EXAMPLE), parse_market(EXAMPLE)
        self.assertIsNot(first, second)
        self.assertIsNot(first.goods, second.goods)
        self.assertIsNot(first.people, second.people)

    def test_arguments_stay_as_they_were(self):
        market = parse_market(EXAMPLE)
        format_market(market)
        head_of(market, "bob")
        self.assertEqual(market.goods, ["bread", "wine"])
        self.assertEqual(market.people, [("ann", "ann"), ("bob", "ann")])


class Texts(MarketCase):
    def test_each_market_comes_back(self):
        for goods in said_goods(["a", "b"]):
            for _, people in said_people(["a", "b", "x1"]):
                again = parse_market(format_market(Market(list(goods), people)))
                self.assertEqual((again.goods, again.people), (list(goods), people))

    def test_one_and_four(self):
        self.assert_market("market goods z end people y end end", ["z"], [("y", "y")])
        self.assert_market(FOUR, ["a", "b", "c", "d"], [("e", "e"), ("f", "e"), ("g", "g"), ("h", "g")])
        self.assertEqual(format_market(parse_market(FOUR)), FOUR)

    def test_written_form(self):
        market = Market(["b", "a"], [("a", "a"), ("c", "c"), ("d", "a"), ("b", "c")])
        self.assertEqual(format_market(market), "market goods b a end people a c d as a b as c end end")

    def test_a_good_and_a_person_of_one_name(self):
        self.assert_market("market goods ann end people ann end end", ["ann"], [("ann", "ann")])

    def test_names_of_twelve_characters(self):
        for name in ["a", "z", "a0", "z9", "abcdefghijkl", "a12345678901", "ends", "asx", "en", "markets"]:
            self.assert_market(f"market goods {name} end people {name} end end", [name], [(name, name)])

    def test_as_a_head_another_person_and_oneself(self):
        start = "market goods a end people ann bob as ann cid as "
        self.assert_market(start + "ann end end", ["a"], [("ann", "ann"), ("bob", "ann"), ("cid", "ann")])
        self.assert_market(start + "bob end end", ["a"], [("ann", "ann"), ("bob", "ann"), ("cid", "ann")])
        self.assert_market(start + "cid end end", ["a"], [("ann", "ann"), ("bob", "ann"), ("cid", "cid")])
        self.assertEqual(format_market(parse_market(start + "bob end end")), start + "ann end end")
        self.assertEqual(format_market(parse_market("market goods a end people b as b end end")),
                         "market goods a end people b end end")

    def test_as_down_a_row_of_people(self):
        self.assert_market("market goods a end people a b as a c as b d as c end end", ["a"],
                           [("a", "a"), ("b", "a"), ("c", "a"), ("d", "a")])

    def test_several_spaces(self):
        spaced = "   market  goods a end   people a    as a end end "
        self.assert_market(spaced, ["a"], [("a", "a")])
        self.assert_bad("  market   good  ", 1)
        self.assert_bad("     ", 0)


class Wrong(MarketCase):
    def test_cut_off_behind_each_word(self):
        self.assert_bad("", 0)
        for text in [EXAMPLE, FOUR, "market goods a end people a as a end end"]:
            words = text.split()
            for many in range(len(words)):
                self.assert_bad(" ".join(words[:many]), many)
                self.assert_bad(" ".join(words[:many]) + "  ", many)

    def test_no_name_where_one_is_due(self):
        for word in WRONG_NAMES:
            if word != "end":
                self.assert_bad(f"market goods a {word} end people a end end", 3)
            self.assert_bad(f"market goods {word} end people a end end", 2)
            self.assert_bad(f"market goods a end people {word} end end", 5)
            self.assert_bad(f"market goods a end people a as {word} end end", 7)
            if word not in ("as", "end"):
                self.assert_bad(f"market goods a end people a {word} end end", 6)

    def test_twice(self):
        self.assert_bad("market goods a a end people b end end", 3)
        self.assert_bad("market goods a b c a end people b end end", 5)
        self.assert_bad("market goods a end people b b end end", 6)
        self.assert_bad("market goods a end people b as b b end end", 8)
        self.assert_bad("market goods a end people b c d as b c end end", 10)

    def test_a_fifth(self):
        self.assert_bad("market goods a b c d e end people b end end", 6)
        self.assert_bad("market goods a end people a b c d e end end", 9)
        self.assert_bad("market goods a end people a b c d as a e end end", 11)

    def test_none(self):
        self.assert_bad("market goods end people b end end", 2)
        self.assert_bad("market goods a end people end end", 5)

    def test_behind_as(self):
        start = "market goods g end people ann bob as"
        self.assert_bad(start, 8)
        for word in ["cid", "g", "end", "as", "Ann", "stranger", "market"]:
            self.assert_bad(f"{start} {word} cid end end", 8)
        self.assert_bad(f"{start} ann as bob end end", 9)
        self.assert_bad("market goods g end people as ann end end", 5)

    def test_a_word_too_many(self):
        for word in ["end", "a", "market", "X"]:
            self.assert_bad(EXAMPLE + " " + word, 12)
            self.assert_bad(f"{EXAMPLE} {word} {word}", 12)

    def test_wrong_words_between(self):
        for at, right in enumerate(EXAMPLE.split()):
            if right in KEPT and at != 9:
                words = EXAMPLE.split()
                words[at] = "Other"
                self.assert_bad(" ".join(words), at)

    def test_each_prefix_with_each_word(self):
        """Of all beginnings of texts over few names, each next word is taken or refused as it should be."""
        whole = {}
        for goods in said_goods(["a", "b"]):
            for words, people in said_people(["a", "b"]):
                text = ("market", "goods", *goods, "end", "people", *words, "end", "end")
                whole[text] = (list(goods), people)
        begun = {text[:many] for text in whole for many in range(len(text) + 1)}
        alphabet = ["market", "goods", "people", "end", "as", "a", "b", "better", "A"]
        for start in begun:
            for word in alphabet:
                text = (*start, word)
                if text in whole:
                    self.assert_market(" ".join(text), *whole[text])
                else:
                    self.assert_bad(" ".join(text), len(text) if text in begun else len(start))


class Heads(unittest.TestCase):
    def test_heads_and_others(self):
        market = parse_market("market goods a end people ann bob as ann cid dan as bob end end")
        self.assertEqual([head_of(market, person) for person in ["ann", "bob", "cid", "dan"]],
                         ["ann", "ann", "cid", "ann"])

    def test_unknown(self):
        market = parse_market(EXAMPLE)
        for name in ["bread", "wine", "cid", "as", "end", "market", "", "an", "ann ", "Ann"]:
            with self.assertRaises(UnknownName):
                head_of(market, name)

    def test_a_good_of_the_same_name(self):
        self.assertEqual(head_of(parse_market("market goods ann end people bob ann as bob end end"), "ann"), "bob")


if __name__ == "__main__":
    unittest.main()
