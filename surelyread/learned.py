"""Learned patterns: what the shapes look like in the pages where they were read."""

from surelyread.drawing import cost
from surelyread.pixels import differing, window
from surelyread.readings import regions
from surelyread.strips import page_region


def train(parts, samples):
    """(learned parts, cost with the parts, cost with the learned parts, counts of samples)."""
    seen = {}
    for rows, reading in samples:
        for region in regions(parts, page_of(parts, rows), reading):
            if parts[region[0]][0] == "shape":
                seen.setdefault(region[0], []).append(window(rows, region))
    learned = []
    counts = []
    for number in range(len(parts)):
        part = parts[number]
        if part[0] == "shape":
            counts.append((number, len(seen.get(number, []))))
        learned.append((*part[:4], majority(seen[number])) if number in seen else part)
    learned = tuple(learned)
    return learned, cost_of_all(parts, samples), cost_of_all(learned, samples), tuple(counts)


def page_of(parts, rows):
    """The region of the page of an image."""
    return page_region(parts, len(rows[0]), len(rows))


def majority(images):
    """The image that is black where more than half of the images are."""
    rows = []
    for y in range(len(images[0])):
        rows.append("".join([most_have(images, x, y) for x in range(len(images[0][y]))]))
    return tuple(rows)


def most_have(images, x, y):
    """The pixel that more than half of the images have; white if it is just half."""
    blacks = [image for image in images if image[y][x] == "#"]
    return "#" if 2 * len(blacks) > len(images) else "."


def cost_of_all(parts, samples):
    """The sum of the costs of the readings of all samples for their images."""
    return sum([cost(parts, page_of(parts, rows), reading, rows) for rows, reading in samples])


def distance(parts, first, second):
    """In how many pixels the patterns of two shapes differ; None if their sizes do."""
    one = parts[first][4]
    other = parts[second][4]
    if len(one) != len(other) or len(one[0]) != len(other[0]):
        return None
    return differing(one, other)
