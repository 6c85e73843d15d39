"""Questions: which of them, however they are answered, settle which of two baskets is liked more."""

from buybook.conflicts import sets_of
from buybook.data import Data
from buybook.errors import NotAllowed
from buybook.likings import likes
from buybook.rings import find_ring

MOST_QUESTIONS = 2
GOALS = ("first", "alike", "second")


def settles(data, first, second, questions, chosen):
    """Return whether a set of questions settles two baskets."""
    for links in _answers([questions[k] for k in chosen]):
        answered = Data(data.goods, data.buys, [*data.links, *links])
        if find_ring(answered) is None and not _is_settled(answered, first, second):
            return False
    return True


def settling(data, first, second, questions):
    """Return the least settling sets."""
    if len(questions) > MOST_QUESTIONS:
        raise NotAllowed("there are too many questions")
    found = []
    for chosen in sets_of(len(questions)):
        # With more questions a set still settles, so only those count that hold none that was found.
        if not any(_lies_within(fewer, chosen) for fewer in found):
            if settles(data, first, second, questions, chosen):
                found.append(chosen)
    return found


def _answers(questions):
    """Return for each row of answers the links that it gives."""
    rows = [[]]
    for i, j in questions:
        answers = [[(i, j, True)], [(i, j, False), (j, i, False)], [(j, i, True)]]
        rows = [[*row, *links] for row in rows for links in answers]
    return rows


def _is_settled(data, first, second):
    """Return whether exactly one of the goals can be had."""
    had = 0
    for goal in GOALS:
        if likes(data, first, second, goal)[0] == "can":
            had += 1
            if had > 1:
                return False
    return had == 1


def _lies_within(fewer, chosen):
    """Return whether all of one set are in the other."""
    return all(k in chosen for k in fewer)
