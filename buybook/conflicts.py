"""Conflicts: which purchases and links of data can not be had together."""

from itertools import combinations

from buybook.data import Data
from buybook.errors import NotAllowed
from buybook.rings import find_ring

MOST_THINGS = 6


def part(data, things):
    """Return the data of a set of things."""
    count = len(data.buys)
    places = {}
    for thing in things:
        if thing < count:
            places[thing] = len(places)
    links = []
    for thing in things:
        if thing >= count:
            i, j, strict = data.links[thing - count]
            if i in places and j in places:
                links.append((places[i], places[j], strict))
    return Data(data.goods, [data.buys[i] for i in places], links)


def conflicts(data):
    """Return the least refuted sets and the greatest standing sets."""
    count = len(data.buys) + len(data.links)
    if count > MOST_THINGS:
        raise NotAllowed("there are too many things")
    sets = sets_of(count)
    refuted = {tuple(chosen): find_ring(part(data, chosen)) is not None for chosen in sets}
    least = []
    greatest = []
    for chosen in sets:
        fewer = [refuted[tuple(x for x in chosen if x != thing)] for thing in chosen]
        more = [refuted[tuple(sorted([*chosen, thing]))] for thing in range(count) if thing not in chosen]
        if refuted[tuple(chosen)]:
            # A set is refuted if one within it is, so sets with one thing less tell of all the others.
            if not any(fewer):
                least.append(chosen)
        elif all(more):
            greatest.append(chosen)
    return (least, greatest)


def sets_of(count):
    """Return all sets of so many things, by length and then by the first number that differs."""
    sets = []
    for size in range(count + 1):
        for chosen in combinations(range(count), size):
            sets.append(list(chosen))
    return sets
