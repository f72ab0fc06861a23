"""Drawings: what a reading draws, what it costs for an image, and which wishes it obeys."""

from surelyread.pixels import differing, window
from surelyread.readings import fits, pieces_by, price, regions
from surelyread.strips import machines


def draw(parts, region, reading):
    """The image that the reading draws, of the size of the region."""
    return draw_by(parts, machines(parts), region, reading)


def draw_by(parts, table, region, reading):
    """The image that the reading draws; table has the machines of the parts."""
    part = parts[region[0]]
    if part[0] == "plain":
        return plain_image(part, region)
    if part[0] == "shape":
        return part[4]
    images = []
    for piece, inner in pieces_by(parts, table, region, reading):
        images.append(draw_by(parts, table, piece, inner))
    if part[0] == "across":
        return tuple(["".join([image[at] for image in images]) for at in range(region[4])])
    return tuple([row for image in images for row in image])


def plain_image(part, region):
    """The image of a region of a plain part."""
    row = "#" if part[4] else "."
    return tuple([row * region[3] for _ in range(region[4])])


def cost(parts, region, reading, rows):
    """The price of the reading, and one for each pixel in which the image differs."""
    drawn = draw(parts, region, reading)
    return price(parts, region, reading) + differing(drawn, window(rows, region))


def leaf_cost(part, region, rows):
    """The cost of the reading of a plain part or a shape, or None if nothing fills the region."""
    if not fits(part, region):
        return None
    if part[0] == "shape":
        return part[3] + differing(part[4], window(rows, region))
    blacks = count_black(rows, region)
    return part[3] + (region[3] * region[4] - blacks if part[4] else blacks)


def count_black(rows, region):
    """How many pixels of a region are black."""
    _, x, y, width, height = region
    left = max(x, 0)
    right = max(x + width, 0)
    return sum([row[left:right].count("#") for row in rows[max(y, 0):max(y + height, 0)]])


def obeys(parts, region, reading, fixed, forbidden):
    """Whether the reading has all of the fixed regions and none of the forbidden ones."""
    found = regions(parts, region, reading)
    return all([one in found for one in fixed]) and not any([one in found for one in forbidden])
