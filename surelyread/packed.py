"""Packed pages: the best reading and the wrong pixels, as a list of small numbers."""

from surelyread.best import best
from surelyread.drawing import draw
from surelyread.errors import BadNumbers, BadReading
from surelyread.learned import page_of
from surelyread.pixels import MOST_PIXELS
from surelyread.readings import fits, to_integers
from surelyread.strips import extent, is_strip, machines, page_region, piece_region

# Stands behind the pieces of a strip.
END = 255


def pack(parts, rows):
    """The numbers of a page: its size, its best reading, its wrong pixels."""
    page = page_of(parts, rows)
    found = best(parts, page, rows, ((), ()))
    if found is None:
        raise BadReading()
    integers = [END if number == -1 else number for number in to_integers(found[1])]
    return [len(rows[0]), len(rows)] + integers + distances(draw(parts, page, found[1]), rows)


def distances(drawn, rows):
    """The first place at which two images differ, and the distance of each other one."""
    found = []
    last = 0
    for y in range(len(rows)):
        for x in range(len(rows[y])):
            if rows[y][x] != drawn[y][x]:
                place = y * len(rows[y]) + x
                found.append(place - last)
                last = place
    return found


class Unpacker:
    """Steps through the numbers of a page; at is the index of the number that comes next."""

    def __init__(self, parts, numbers):
        self.parts = parts
        self.table = machines(parts)
        self.numbers = numbers
        self.at = 0

    def take(self, least, most):
        """Steps over a number that must be from the least to the most; the number."""
        if self.at == len(self.numbers) or not least <= self.numbers[self.at] <= most:
            raise BadNumbers(self.at)
        self.at += 1
        return self.numbers[self.at - 1]

    def take_image(self):
        """The image that the numbers describe."""
        width = self.take(1, MOST_PIXELS)
        height = self.take(1, MOST_PIXELS)
        page = page_region(self.parts, width, height)
        if not self.can_have(page):
            raise BadNumbers(1)
        drawn = draw(self.parts, page, self.take_reading(page))
        return with_changes(drawn, self.take_places(width * height))

    def can_have(self, region):
        """Whether the region is not one of a shape that does not fill it."""
        part = self.parts[region[0]]
        return is_strip(part) or fits(part, region)

    def take_reading(self, region):
        """The reading of a region."""
        part = self.parts[region[0]]
        if not is_strip(part):
            return ()
        moves = self.table[region[0]][1]
        state = 0
        offset = 0
        pieces = []
        while not self.skip_end(region, state, offset):
            number = self.take_move(moves, state)
            piece = self.take_piece(region, offset, moves[number])
            size = extent(part, piece)
            pieces.append((number, size, self.take_reading(piece)))
            state = moves[number][1]
            offset += size
        return tuple(pieces)

    def skip_end(self, region, state, offset):
        """Steps over the end of a strip if it comes next, where it can stand; whether it does."""
        if self.at == len(self.numbers) or self.numbers[self.at] != END:
            return False
        if offset != extent(self.parts[region[0]], region) or not self.table[region[0]][0][state]:
            raise BadNumbers(self.at)
        self.at += 1
        return True

    def take_move(self, moves, state):
        """The number of a move that goes from the state."""
        number = self.take(0, len(moves) - 1)
        if moves[number][0] != state:
            raise BadNumbers(self.at - 1)
        return number

    def take_piece(self, region, offset, move):
        """The piece that a move puts at an offset, told by its size."""
        part = self.parts[region[0]]
        size = self.take(move[3], min(move[4], extent(part, region) - offset))
        piece = piece_region(part, region, offset, size, move[2])
        if not self.can_have(piece):
            raise BadNumbers(self.at - 1)
        return piece

    def take_places(self, many):
        """The places of the wrong pixels, of so many pixels."""
        places = []
        least = 0
        last = 0
        while self.at < len(self.numbers):
            last += self.take(least, many - 1 - last)
            places.append(last)
            # Only the first place is told as it is, and can be 0.
            least = 1
        return places


def with_changes(rows, places):
    """The image with other pixels at the places."""
    changed = [list(row) for row in rows]
    for place in places:
        y, x = divmod(place, len(rows[0]))
        changed[y][x] = "." if rows[y][x] == "#" else "#"
    return tuple(["".join(row) for row in changed])


def check_equal(numbers, others):
    """Refuses numbers that are not the others, at the first index at which they differ."""
    for at in range(min(len(numbers), len(others))):
        if numbers[at] != others[at]:
            raise BadNumbers(at)
    if len(numbers) != len(others):
        raise BadNumbers(min(len(numbers), len(others)))


def unpack(parts, numbers):
    """The image of the numbers of a packed page."""
    rows = Unpacker(parts, numbers).take_image()
    check_equal(numbers, pack(parts, rows))
    return rows
