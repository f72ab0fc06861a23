"""Readings: what fills a region, and what a reading tells."""

from surelyread.errors import BadReading
from surelyread.strips import extent, is_strip, machines, piece_region


def fills(parts, region, reading):
    """Whether the reading fills the region."""
    return fills_by(parts, machines(parts), region, reading)


def fills_by(parts, table, region, reading):
    """Whether the reading fills the region; table has the machines of the parts."""
    part = parts[region[0]]
    if not is_strip(part):
        return reading == () and fits(part, region)
    ends, moves = table[region[0]]
    state = 0
    offset = 0
    for number, size, inner in reading:
        if not 0 <= number < len(moves):
            return False
        origin, target, below, least, most, _ = moves[number]
        if origin != state or not least <= size <= most:
            return False
        if not fills_by(parts, table, piece_region(part, region, offset, size, below), inner):
            return False
        state = target
        offset += size
    # No extent is 0, so a reading without pieces fails here, too.
    return offset == extent(part, region) and ends[state]


def fits(part, region):
    """Whether a plain part or a shape can have a region of this width and height."""
    if part[0] == "plain":
        return True
    rows = part[4]
    return region[3] == len(rows[0]) and region[4] == len(rows)


def to_integers(reading):
    """The integers of a reading."""
    # Only a leaf has no pieces, so the empty reading is that of a leaf.
    if reading == ():
        return []
    integers = []
    for number, size, inner in reading:
        integers.extend([number, size])
        integers.extend(to_integers(inner))
    integers.append(-1)
    return integers


def from_integers(parts, region, integers):
    """The reading that fills the region and has these integers."""
    reading, end = take_reading(machines(parts), region[0], integers, 0)
    if end != len(integers) or not fills(parts, region, reading):
        raise BadReading()
    return reading


def take_reading(table, part, integers, at):
    """The reading of a part whose integers begin at an index, and the index behind them."""
    if table[part] == ():
        return (), at
    _, moves = table[part]
    pieces = []
    while at < len(integers) and integers[at] != -1:
        number = integers[at]
        if at + 1 == len(integers) or not 0 <= number < len(moves):
            raise BadReading()
        inner, end = take_reading(table, moves[number][2], integers, at + 2)
        pieces.append((number, integers[at + 1], inner))
        at = end
    if at == len(integers):
        raise BadReading()
    return tuple(pieces), at + 1


def regions(parts, region, reading):
    """The regions of a reading, each one ahead of those in it."""
    return regions_by(parts, machines(parts), region, reading)


def regions_by(parts, table, region, reading):
    """The regions of a reading; table has the machines of the parts."""
    found = [region]
    for piece, inner in pieces_by(parts, table, region, reading):
        found.extend(regions_by(parts, table, piece, inner))
    return found


def pieces_by(parts, table, region, reading):
    """The region and the reading of each piece; table has the machines of the parts."""
    pieces = []
    offset = 0
    for number, size, inner in reading:
        below = table[region[0]][1][number][2]
        pieces.append((piece_region(parts[region[0]], region, offset, size, below), inner))
        offset += size
    return pieces


def leaves(parts, region, reading):
    """The regions of a reading that belong to plain parts and shapes."""
    return [found for found in regions(parts, region, reading) if not is_strip(parts[found[0]])]


def price(parts, region, reading):
    """The sum of the costs of the leaves and of the moves of a reading."""
    return price_by(parts, machines(parts), region[0], reading)


def price_by(parts, table, part, reading):
    """The price of a reading of a part; table has the machines of the parts."""
    if not is_strip(parts[part]):
        return parts[part][3]
    total = 0
    for number, _, inner in reading:
        move = table[part][1][number]
        total += move[5] + price_by(parts, table, move[2], inner)
    return total


def text_of(parts, region, reading):
    """The text of a reading: the labels of its leaves, with the joints between."""
    return text_by(parts, machines(parts), region[0], reading)


def text_by(parts, table, part, reading):
    """The text of a reading of a part; table has the machines of the parts."""
    if not is_strip(parts[part]):
        return parts[part][2]
    texts = []
    for number, _, inner in reading:
        texts.append(text_by(parts, table, table[part][1][number][2], inner))
    return parts[part][2].join([text for text in texts if text != ""])


def comes_first(one, other):
    """Whether one reading comes ahead of another one of the same region."""
    # Nested tuples are compared just so: by the first piece that differs, and in it by
    # the move, then by the size, then by the piece.
    return one < other
