"""Books: purchases and statements, and what may be added to them and removed."""

from buybook.data import Data
from buybook.errors import NotAllowed, UnknownName
from buybook.market import head_of
from buybook.ratio import at_most, less
from buybook.words import Reader, is_name

MOST_PURCHASES = 12
MOST_OF_A_TASTE = 6
MOST_STATEMENTS = 6
ZERO = (0, 1)
WORD_BETWEEN = {"better": "than", "well": "as"}


class Book:
    """The purchases of the people of a market, in order, and what they said of them."""

    def __init__(self, market):
        self.market = market
        # For each name, in the order of the purchases, (person, prices, amounts).
        self._purchases = {}
        # Tuples (word, first purchase, second purchase).
        self._statements = []

    def buy(self, name, person, prices, amounts):
        """Add a purchase."""
        if not is_name(name):
            raise NotAllowed("this is not a name")
        head = head_of(self.market, person)
        _check_purchase(len(self.market.goods), prices, amounts)
        if name in self._purchases:
            raise NotAllowed(f"there is a purchase {name}")
        if len(self._purchases) >= MOST_PURCHASES:
            raise NotAllowed("the book is full")
        if len(self._of_taste(head)) >= MOST_OF_A_TASTE:
            raise NotAllowed("there are too many purchases of this taste")
        self._purchases[name] = (person, list(prices), list(amounts))

    def forget(self, name):
        """Remove a purchase."""
        if name not in self._purchases:
            raise UnknownName(f"there is no purchase {name}")
        for _, first, second in self._statements:
            if name in (first, second):
                raise NotAllowed(f"a statement names {name}")
        del self._purchases[name]

    def say(self, text):
        """Add a statement."""
        statement = self._read_statement(text)
        if len(self._statements) >= MOST_STATEMENTS:
            raise NotAllowed("there are too many statements")
        self._statements.append(statement)

    def unsay(self, index):
        """Remove a statement."""
        # Python would count an index below 0 from the end.
        if not 0 <= index < len(self._statements):
            raise NotAllowed("there is no statement of this index")
        del self._statements[index]

    def purchases(self):
        """Return the purchases as tuples (name, person, prices, amounts)."""
        return [(name, person, list(prices), list(amounts))
                for name, (person, prices, amounts) in self._purchases.items()]

    def statements(self):
        """Return the texts of the statements."""
        return [f"{word} {first} {WORD_BETWEEN[word]} {second}" for word, first, second in self._statements]

    def names(self, person):
        """Return the names of the purchases of the person's taste."""
        return self._of_taste(head_of(self.market, person))

    def data(self, person):
        """Return the data of the person's taste."""
        names = self.names(person)
        places = {name: i for i, name in enumerate(names)}
        buys = [self._purchases[name][1:] for name in names]
        # Both purchases of a statement are of one taste, so one of them tells whether it belongs here.
        links = [(places[first], places[second], word == "better")
                 for word, first, second in self._statements if first in places]
        return Data(len(self.market.goods), buys, links)

    def _of_taste(self, head):
        """Return the names of the purchases of the people of this head."""
        return [name for name, (person, _, _) in self._purchases.items() if head_of(self.market, person) == head]

    def _read_statement(self, text):
        """Return a text as (word, first purchase, second purchase); raise BadText if it is no statement."""
        reader = Reader(text)
        word = reader.read(["better", "well"])
        first = reader.read(self._purchases)
        reader.read([WORD_BETWEEN[word]])
        second = reader.read(self.names(self._purchases[first][0]))
        reader.finish()
        return (word, first, second)


def _check_purchase(goods, prices, amounts):
    """Raise NotAllowed if these are not the prices and amounts of a purchase of so many goods."""
    if len(prices) != goods or len(amounts) != goods:
        raise NotAllowed("there must be a price and an amount for each good")
    if any(at_most(price, ZERO) for price in prices):
        raise NotAllowed("a price must be above 0")
    if any(less(amount, ZERO) for amount in amounts):
        raise NotAllowed("an amount must not be below 0")
    if all(amount == ZERO for amount in amounts):
        raise NotAllowed("an amount must be above 0")
