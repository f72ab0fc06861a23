"""Bounds: what anybody can check to be sure that nothing costs less."""

from surelyread.best import Costs, allowed
from surelyread.drawing import leaf_cost
from surelyread.errors import TooMany
from surelyread.needs import Looks, looks_from, needed_by
from surelyread.strips import extent, is_strip, machines, piece_region

MOST_BOUNDS = 1500


def all_bounds(parts, region, rows, wishes):
    """The bounds of all needed regions and of the reached spots of those of strips."""
    costs = Costs(Looks(parts), rows, wishes)
    bounds = []
    for one in needed_by(costs.looks, region):
        bounds.append((*one, None, None, costs.least(one)))
        if is_strip(parts[one[0]]):
            rests = costs.by_spot(one)
            for state, offset in costs.looks.by_spot(one):
                bounds.append((*one, state, offset, rests[(state, offset)]))
        if len(bounds) > MOST_BOUNDS:
            raise TooMany()
    return bounds


def told_by(bounds):
    """The least that counts for each region, with None and None, and for each spot."""
    told = {}
    for bound in bounds:
        told.setdefault(bound[:7], bound[7])
    return told


def bound_of(told, region, state, offset):
    """The least that counts for a region or a spot; 0 if no bound speaks of it."""
    return told.get((*region, state, offset), 0)


def at_most(one, other):
    """Whether one cost is at most the other one; None is greater than each number."""
    return other is None or (one is not None and one <= other)


def total(terms):
    """The sum of the terms; None if one of them is None."""
    return None if None in terms else sum(terms)


class Checker:
    """Checks the bounds of a list, for an image and wishes."""

    def __init__(self, parts, rows, wishes, bounds):
        self.parts = parts
        self.table = machines(parts)
        self.rows = rows
        self.wished = wishes
        self.told = told_by(bounds)

    def good(self, bound):
        """Whether a bound is right."""
        region = bound[:5]
        state, offset, least = bound[5:]
        strip = is_strip(self.parts[region[0]])
        if state is not None:
            return not strip or self.good_spot(region, state, offset, least)
        if not allowed(self.parts, region, self.wished):
            return True
        if strip:
            return at_most(least, bound_of(self.told, region, 0, 0))
        return at_most(least, leaf_cost(self.parts[region[0]], region, self.rows))

    def good_spot(self, region, state, offset, least):
        """Whether a bound of a spot of a region of a strip is right."""
        part = self.parts[region[0]]
        ends, moves = self.table[region[0]]
        left = extent(part, region) - offset
        if state >= len(ends) or left < 0:
            return True
        if left == 0 and ends[state] and least != 0:
            return False
        for number, size in looks_from(moves, state, left):
            move = moves[number]
            piece = piece_region(part, region, offset, size, move[2])
            inner = bound_of(self.told, piece, None, None)
            rest = bound_of(self.told, region, move[1], offset + size)
            if not at_most(least, total([move[5], inner, rest])):
                return False
        return True


def right(parts, rows, wishes, bounds):
    """Whether each of the bounds is right."""
    checker = Checker(parts, rows, wishes, bounds)
    return all([checker.good(bound) for bound in bounds])


def certifies(parts, region, rows, wishes, bounds, cost):
    """Whether the bounds certify that nothing costs less, or for None that there is nothing."""
    if not right(parts, rows, wishes, bounds):
        return False
    return at_most(cost, bound_of(told_by(bounds), region, None, None))
