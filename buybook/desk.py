"""Desks: a book, questions that stand while it changes, and the journal of all entries."""

from buybook.book import Book
from buybook.ends import judge_paper, least
from buybook.entries import book_after, copy_entry, questions_after
from buybook.errors import NotAllowed
from buybook.reach import reached

MOST_ENTRIES = 200
ZERO = (0, 1)


class Desk:
    """Takes entries, and tells how its questions stand."""

    def __init__(self, market):
        self._market = market
        self._book = Book(market)
        # For each name, in order, (person, prices, money, weights).
        self._questions = {}
        self._entries = []

    def do(self, entry):
        """Take a copy of an entry; raise what it is refused for, and change nothing then."""
        book = book_after(self._book, entry)
        questions = questions_after(self._market, self._questions, entry)
        if len(self._entries) >= MOST_ENTRIES:
            raise NotAllowed("the journal is full")
        self._book = book
        self._questions = questions
        self._entries.append(copy_entry(entry))

    def standing(self):
        """Return the names of the questions, each with its answer."""
        return list(_answers(self._book, self._questions).items())

    def changes(self, entry):
        """Return the names whose answer an entry would change, each with the answer before and after it."""
        book = book_after(self._book, entry)
        after = _answers(book, questions_after(self._market, self._questions, entry))
        return [(name, answer, after[name]) for name, answer in self.standing()
                if name in after and after[name] != answer]

    def touches(self, entry, person, prices, money, paper):
        """Return whether an entry would touch a paper."""
        book = book_after(self._book, entry)
        questions_after(self._market, self._questions, entry)
        names = book.names(person)
        rows = reached(book.data(person), prices, money)
        for name, price in paper[1]:
            if price != ZERO and (name not in names or rows[names.index(name)] is None):
                return True
        return False

    def judge_named_paper(self, person, prices, money, weights, value, paper):
        """Return whether a paper that is told by names is accepted."""
        names = self._book.names(person)
        money_price, pairs = paper
        if len({name for name, _ in pairs}) != len(pairs):
            return False
        row_prices = [ZERO] * len(names)
        for name, price in pairs:
            if name in names:
                row_prices[names.index(name)] = price
            elif price != ZERO:
                return False
        data = self._book.data(person)
        return judge_paper(data, prices, money, weights, value, (money_price, row_prices))

    def journal(self):
        """Return the entries that were taken."""
        return [copy_entry(entry) for entry in self._entries]


def _answers(book, questions):
    """Return for each name how its question stands."""
    answers = {}
    for name, (person, prices, money, weights) in questions.items():
        told = least(book.data(person), prices, money, weights)
        answers[name] = ("ring",) if told[0] == "ring" else told[:2]
    return answers


def replay(market, journal):
    """Return a new desk that took these entries; raise what the first one that is refused raises."""
    desk = Desk(market)
    for entry in journal:
        desk.do(entry)
    return desk
