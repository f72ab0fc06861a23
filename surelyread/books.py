"""Books: pages from which patterns are learned, turn by turn."""

from surelyread.best import best
from surelyread.learned import page_of, train

NO_WISHES = ((), ())


def one_turn(parts, book):
    """One turn: (trained parts, cost, best reading of each page or None)."""
    found = [best(parts, page_of(parts, rows), rows, NO_WISHES) for rows in book]
    samples = [(rows, told[1]) for rows, told in zip(book, found) if told is not None]
    trained = train(parts, samples)[0]
    cost = sum([told[0] for told in found if told is not None])
    return trained, cost, tuple([None if told is None else told[1] for told in found])


def learn(parts, book, most):
    """At most so many turns: (parts, costs of the turns, readings of the last one, settled)."""
    costs = []
    readings = ()
    settled = False
    while not settled and len(costs) < most:
        trained, cost, readings = one_turn(parts, book)
        costs.append(cost)
        settled = trained == parts
        parts = trained
    return parts, costs, readings, settled
