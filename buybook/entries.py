"""Entries of a desk: what they make of a book and of the questions that stand."""

from buybook.book import Book
from buybook.errors import NotAllowed, UnknownName
from buybook.market import head_of
from buybook.ratio import at_most
from buybook.words import is_name

MOST_QUESTIONS = 8
ZERO = (0, 1)


def copy_entry(entry):
    """Return a copy of an entry, the lists inside too."""
    return tuple(list(part) if isinstance(part, list) else part for part in entry)


def book_after(book, entry):
    """Return a book like this one that took the entry; raise the error of the book if it refuses it.

    For `ask` and `drop`, which do not change a book, it is the book itself.
    """
    word = entry[0]
    if word in ("ask", "drop"):
        return book
    new = _copy_book(book)
    if word == "buy":
        _, name, person, prices, amounts = entry
        new.buy(name, person, prices, amounts)
    elif word == "forget":
        new.forget(entry[1])
    elif word == "say":
        new.say(entry[1])
    else:
        new.unsay(entry[1])
    return new


def questions_after(market, questions, entry):
    """Return the questions that stand after an entry; raise what an `ask` or `drop` is refused for.

    Questions are told as a dict: for each name, in order, (person, prices, money, weights).
    """
    new = {name: question for name, question in questions.items()}
    if entry[0] == "ask":
        _, name, person, prices, money, weights = entry
        _check_question(market, name, person, prices, money, weights)
        if name not in questions and len(questions) >= MOST_QUESTIONS:
            raise NotAllowed("too many other questions stand")
        new[name] = (person, list(prices), money, list(weights))
    elif entry[0] == "drop":
        if entry[1] not in questions:
            raise UnknownName(f"no question stands under {entry[1]}")
        del new[entry[1]]
    return new


def _copy_book(book):
    """Return a book of the same market, purchases and statements."""
    new = Book(book.market)
    for name, person, prices, amounts in book.purchases():
        new.buy(name, person, prices, amounts)
    for text in book.statements():
        new.say(text)
    return new


def _check_question(market, name, person, prices, money, weights):
    """Raise what a question is refused for, whatever else stands."""
    if not is_name(name):
        raise NotAllowed("this is not a name")
    head_of(market, person)
    goods = len(market.goods)
    if len(prices) != goods or any(at_most(price, ZERO) for price in prices):
        raise NotAllowed("there must be a price above 0 for each good")
    if at_most(money, ZERO):
        raise NotAllowed("the money must be above 0")
    if len(weights) != goods:
        raise NotAllowed("there must be a weight for each good")
