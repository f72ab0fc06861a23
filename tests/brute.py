"""What the document says, told by enumerating all readings: for small regions only."""

import functools
import random

from surelyread.errors import TooLarge
from surelyread.grammars import parse_grammar
from surelyread.strips import is_strip, machines

NO_WISHES = ((), ())


@functools.cache
def machine_of(parts, number):
    """The machine of a strip; those of a grammar are told once."""
    return machines(parts)[number]


def piece_of(parts, region, offset, size, inner):
    """The region of a piece of a strip."""
    if parts[region[0]][0] == "across":
        return (inner, region[1] + offset, region[2], size, region[4])
    return (inner, region[1], region[2] + offset, region[3], size)


def extent_of(parts, region):
    return region[3 if parts[region[0]][0] == "across" else 4]


def readings(parts, region):
    """All readings that fill the region, in their order, told by the moves."""
    part = parts[region[0]]
    if not is_strip(part):
        good = part[0] == "plain" or (region[3], region[4]) == (len(part[4][0]), len(part[4]))
        return [()] if good else []
    return rests(parts, region, 0, 0)


def rests(parts, region, state, offset):
    """All rests at a spot of a region of a strip, in their order."""
    ends, moves = machine_of(parts, region[0])
    left = extent_of(parts, region) - offset
    found = [()] if left == 0 and ends[state] else []
    for number, (origin, target, inner, least, most, _) in enumerate(moves):
        for size in range(least, min(most, left) + 1):
            if origin == state:
                piece = piece_of(parts, region, offset, size, inner)
                behind = rests(parts, region, target, offset + size)
                for one in readings(parts, piece) if behind else []:
                    found.extend(((number, size, one),) + rest for rest in behind)
    return found


def regions_of(parts, region, reading):
    """The regions of a reading, or of the rest that begins with its pieces at offset 0."""
    return [region] + regions_of_rest(parts, region, 0, reading)


def regions_of_rest(parts, region, offset, rest):
    found = []
    for number, size, inner in rest:
        piece = piece_of(parts, region, offset, size, machine_of(parts, region[0])[1][number][2])
        found.extend(regions_of(parts, piece, inner))
        offset += size
    return found


def leaves_of(parts, region, reading):
    return [one for one in regions_of(parts, region, reading) if not is_strip(parts[one[0]])]


def pixels_of(region):
    _, x, y, width, height = region
    return {(column, row) for column in range(x, x + width) for row in range(y, y + height)}


def black(rows, x, y):
    return 0 <= y < len(rows) and 0 <= x < len(rows[0]) and rows[y][x] == "#"


def told_by(parts, region, reading):
    """The text of a reading."""
    part = parts[region[0]]
    if not is_strip(part):
        return part[2]
    texts = [told_by(parts, (machine_of(parts, region[0])[1][number][2],), inner)
             for number, _, inner in reading]
    return part[2].join(filter(None, texts))


def drawn_black(part, leaf, x, y):
    return part[4] if part[0] == "plain" else part[4][y - leaf[2]][x - leaf[1]] == "#"


def leaf_cost_of(parts, leaf, rows):
    part = parts[leaf[0]]
    wrong = [at for at in pixels_of(leaf) if drawn_black(part, leaf, *at) != black(rows, *at)]
    return part[3] + len(wrong)


def moves_cost_of(parts, region, reading):
    total = 0
    for number, _, inner in reading:
        move = machine_of(parts, region[0])[1][number]
        total += move[5] + moves_cost_of(parts, (move[2],), inner)
    return total


def cost_of(parts, region, reading, rows):
    """The cost of a reading, leaf by leaf and pixel by pixel."""
    return cost_of_rest(parts, region, 0, reading, rows) if is_strip(parts[region[0]]) else (
        leaf_cost_of(parts, region, rows))


def cost_of_rest(parts, region, offset, rest, rows):
    found = regions_of_rest(parts, region, offset, rest)
    return moves_cost_of(parts, region, rest) + sum(
        leaf_cost_of(parts, one, rows) for one in found if not is_strip(parts[one[0]]))


def is_allowed(parts, region, wishes):
    if region in wishes[1]:
        return False
    if is_strip(parts[region[0]]):
        return True
    return all(one == region or not pixels_of(one) & pixels_of(region) for one in wishes[0])


def all_allowed(parts, found, wishes):
    return all(is_allowed(parts, one, wishes) for one in found)


def ranked(parts, region, rows, wishes):
    """(cost, reading) of all allowed readings, by cost and then in their order."""
    found = [reading for reading in readings(parts, region)
             if all_allowed(parts, regions_of(parts, region, reading), wishes)]
    pairs = [(cost_of(parts, region, reading, rows), reading) for reading in found]
    return sorted(pairs, key=lambda pair: pair[0])


def first_of(parts, region, rows, wishes, count):
    """The first readings: of those that look alike only the one that precedes."""
    seen = []
    found = []
    for told, reading in ranked(parts, region, rows, wishes):
        look = leaves_of(parts, region, reading)
        if look not in seen:
            seen.append(look)
            found.append((told, reading))
    return found[:count]


@functools.cache
def least_of(parts, region, rows, wishes):
    """The least cost of the allowed readings; for regions that have too many to list them."""
    if not is_allowed(parts, region, wishes):
        return None
    if not is_strip(parts[region[0]]):
        return leaf_cost_of(parts, region, rows) if readings(parts, region) else None
    return least_rest(parts, region, rows, wishes, (0, 0))


@functools.cache
def least_rest(parts, region, rows, wishes, spot):
    """The least cost of the rests at a spot all of whose regions are allowed."""
    ends, moves = machine_of(parts, region[0])
    left = extent_of(parts, region) - spot[1]
    found = [0] if left == 0 and ends[spot[0]] else []
    for origin, target, inner, least, most, price in moves:
        for size in range(least, min(most, left) + 1) if origin == spot[0] else ():
            piece = piece_of(parts, region, spot[1], size, inner)
            told = (least_of(parts, piece, rows, wishes),
                    least_rest(parts, region, rows, wishes, (target, spot[1] + size)))
            if None not in told:
                found.append(price + sum(told))
    return min(found, default=None)


def looks_of(parts, region):
    """The spots and the looks of a region of a strip, told as their definition does."""
    moves = machine_of(parts, region[0])[1]
    reached = {(0, 0)}
    looks = set()
    while True:
        more = {((state, offset), number, size) for state, offset in reached
                for number, move in enumerate(moves) if move[0] == state
                for size in range(move[3], move[4] + 1)
                if offset + size <= extent_of(parts, region)}
        if more == looks:
            return reached, looks
        looks = more
        reached = reached | {(moves[number][1], offset + size)
                             for (_, offset), number, size in looks}


def needed_of(parts, region):
    """The needed regions, a set."""
    found = {region}
    waiting = [region]
    while waiting:
        one = waiting.pop()
        if is_strip(parts[one[0]]):
            moves = machine_of(parts, one[0])[1]
            for (_, offset), number, size in looks_of(parts, one)[1]:
                piece = piece_of(parts, one, offset, size, moves[number][2])
                if piece not in found:
                    found.add(piece)
                    waiting.append(piece)
    return found


def effort_of(parts, width, height):
    page = (len(parts) - 1, 0, 0, width, height)
    return sum(len(looks_of(parts, one)[1]) for one in needed_of(parts, page)
               if is_strip(parts[one[0]]))


class Maker:
    """Makes small grammars, images and wishes, the same ones in each run."""

    def __init__(self, seed):
        self.random = random.Random(seed)

    def image(self, width, height):
        return tuple("".join(self.random.choice(".#") for _ in range(width)) for _ in range(height))

    def cost(self):
        return self.random.choice(("", "", "", " cost 1", " cost 2"))

    def leaf(self, name):
        if self.random.random() < 0.5:
            return f"plain {name} {self.random.choice(('white', 'black'))}{self.cost()};"
        rows = self.image(self.random.randint(1, 2), self.random.randint(1, 2))
        return "shape " + name + self.cost() + " { " + " ".join(f'"{row}"' for row in rows) + " }"

    def place(self, names):
        least = self.random.randint(1, 2)
        sizes = self.random.choice(("", "", " 1", f" {least} to {least + self.random.randint(0, 3)}"))
        return self.random.choice(names) + sizes + self.cost()

    def expression(self, names, depth):
        kind = self.random.randint(0, 5) if depth else 0
        if kind < 2:
            return self.place(names)
        if kind < 5:
            sign = (", ", " | ", " | ")[kind - 2]
            items = [self.expression(names, depth - 1) for _ in range(self.random.randint(2, 3))]
            return "(" + sign.join(items) + ")" + self.random.choice(("", "*", "+"))
        return "(" + self.expression(names, depth - 1) + ")" + self.random.choice("*+?")

    def text(self):
        """The text of a grammar of two or three leaves and one to three strips."""
        names = []
        texts = []
        for name in "abc"[:self.random.randint(2, 3)]:
            texts.append(self.leaf(name))
            names.append(name)
        for name in "pqr"[:self.random.randint(1, 3)]:
            direction = self.random.choice(("across", "down"))
            texts.append(f"{direction} {name} = ({self.expression(names, 2)})*;")
            names.append(name)
        return " ".join(texts)

    def grammar(self):
        while True:
            try:
                return parse_grammar(self.text())
            except TooLarge:
                pass

    def region(self, parts, most):
        """A region of the last part, or sometimes of another one."""
        number = len(parts) - 1 if self.random.random() < 0.8 else self.random.randrange(len(parts))
        return (number, self.random.choice((0, 0, 1, 2)), self.random.choice((0, 0, 1, 2)),
                self.random.randint(1, most), self.random.randint(1, most))

    def wishes(self, parts, region):
        """Wishes of needed regions and of some others; often none."""
        near = sorted(needed_of(parts, region))
        leaves = [one for one in near if not is_strip(parts[one[0]])]
        leaves.append((0, region[1] + region[3] - 1, region[2], 2, 1))
        near.append((len(parts) - 1, region[1] + 1, region[2], 2, 2))
        kind = self.random.randint(0, 3)
        fixed = self.random.sample(leaves, 1) if kind in (1, 3) else []
        forbidden = self.random.sample(near, min(len(near), self.random.randint(1, 3))) if kind > 1 else []
        return tuple(fixed), tuple(forbidden)


def cases(seed, count, most=4, limit=200):
    """(parts, region, rows, wishes) of small cases, most of them with several readings."""
    maker = Maker(seed)
    found = []
    while len(found) < count:
        parts = maker.grammar()
        region = maker.region(parts, most)
        many = count_of(parts, region)
        if maker.random.random() < (0.05, 0.1, 0.3, 1)[min(many, 3)] and many <= limit:
            rows = maker.image(maker.random.randint(1, most + 1), maker.random.randint(1, most + 1))
            found.append((parts, region, rows, maker.wishes(parts, region)))
    return found


def count_of(parts, region):
    """How many readings fill the region, told without making them."""
    if not is_strip(parts[region[0]]):
        return len(readings(parts, region))
    known = {}
    ends, moves = machine_of(parts, region[0])
    end = extent_of(parts, region)
    for offset in range(end, -1, -1):
        for state in range(len(ends)):
            known[state, offset] = 1 if offset == end and ends[state] else 0
            for origin, target, inner, least, most, _ in moves:
                for size in range(least, min(most, end - offset) + 1) if origin == state else ():
                    if known[target, offset + size]:
                        piece = piece_of(parts, region, offset, size, inner)
                        known[state, offset] += count_of(parts, piece) * known[target, offset + size]
    return known[0, 0]
