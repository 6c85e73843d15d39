"""Markets: the goods that are sold and the people who buy them."""

from buybook.errors import UnknownName
from buybook.words import Reader

MOST_GOODS = 4
MOST_PEOPLE = 4


class Market:
    """The names of the goods, and the people as tuples (name, head)."""

    def __init__(self, goods, people):
        self.goods = list(goods)
        self.people = list(people)


def parse_market(text):
    """Return the market of a text; raise BadText if it is not the text of one."""
    reader = Reader(text)
    reader.read(["market"])
    reader.read(["goods"])
    goods = _read_goods(reader)
    reader.read(["people"])
    people = _read_people(reader)
    reader.read(["end"])
    reader.finish()
    return Market(goods, people)


def _read_goods(reader):
    """Return the goods; read the word behind them, too."""
    goods = [reader.read_name([])]
    while len(goods) < MOST_GOODS and not reader.sees("end"):
        goods.append(reader.read_name(goods))
    reader.read(["end"])
    return goods


def _read_people(reader):
    """Return the people with their heads; read the word behind them, too."""
    heads = {}
    while len(heads) == 0 or (len(heads) < MOST_PEOPLE and not reader.sees("end")):
        name = reader.read_name(heads)
        heads[name] = name
        if reader.sees("as"):
            reader.read(["as"])
            # The one who is named may have a head in turn.
            heads[name] = heads[reader.read(heads)]
    reader.read(["end"])
    return list(heads.items())


def format_market(market):
    """Return the text of a market."""
    words = ["market", "goods", *market.goods, "end", "people"]
    for name, head in market.people:
        words.append(name)
        if head != name:
            words.extend(["as", head])
    words.extend(["end", "end"])
    return " ".join(words)


def head_of(market, person):
    """Return the head of a person; raise UnknownName if there is no such person."""
    for name, head in market.people:
        if name == person:
            return head
    raise UnknownName(f"there is no person {person}")
