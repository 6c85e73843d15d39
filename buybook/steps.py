"""Steps and chains: which purchases were bought, or said to be as good, where others could be had."""

from buybook.data import cost, spent
from buybook.ratio import at_most, less


def step(data, i, j):
    """Return None if there is no step from i to j, otherwise whether it is strict."""
    strict = None
    if i != j:
        price = cost(data.buys[i][0], data.buys[j][1])
        money = spent(data, i)
        if at_most(price, money):
            strict = less(price, money)
    for first, second, better in data.links:
        if first == i and second == j:
            strict = better or strict is True
    return strict


def judge_chain(data, chain):
    """Return None if the list is not a chain, otherwise whether it is strict."""
    count = len(data.buys)
    if len(chain) == 0 or any(not 0 <= i < count for i in chain):
        return None
    strict = False
    for i, j in zip(chain, chain[1:]):
        found = step(data, i, j)
        if found is None:
            return None
        strict = strict or found
    return strict


def leads(data):
    """Return for purchases i and j None if i does not lead to j, otherwise whether it does strictly."""
    table = _step_table(data)
    found = []
    for i in range(len(table)):
        before = _search(table, i)
        found.append([_end(before, j) for j in range(len(table))])
    return found


def find_chain(data, i, j):
    """Return a chain from i to j, strict if there is a strict one; None if there is none."""
    before = _search(_step_table(data), i)
    strict = _end(before, j)
    if strict is None:
        return None
    chain = []
    state = (j, strict)
    while state is not None:
        chain.append(state[0])
        state = before[state]
    return chain[::-1]


def _step_table(data):
    """Return the steps between all purchases."""
    count = len(data.buys)
    return [[step(data, i, j) for j in range(count)] for i in range(count)]


def _search(table, start):
    """Return the states that chains from a purchase come to, each with the state before it.

    A state is a purchase, and whether the chain is strict so far: a chain may have to pass
    a purchase twice to become strict.
    """
    before = {(start, False): None}
    states = [(start, False)]
    done = 0
    while done < len(states):
        i, strict = states[done]
        for j, found in enumerate(table[i]):
            state = (j, strict or found is True)
            if found is not None and state not in before:
                before[state] = states[done]
                states.append(state)
        done += 1
    return before


def _end(before, j):
    """Return None if no chain came to j, otherwise whether a strict one did."""
    if (j, True) in before:
        return True
    if (j, False) in before:
        return False
    return None
