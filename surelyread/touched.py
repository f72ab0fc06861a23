"""What a change touches: its pixels, as marks. Marks are a number for each row, a bit for each column."""


def marks_everywhere(rows):
    """The marks of all pixels of an image."""
    return [bits_of(0, len(row)) for row in rows]


def bits_of(x, width):
    """The bits of the columns from x on, as many as the width."""
    return ((1 << width) - 1) << x


def joined(one, other):
    """The marks that are among the ones or the others."""
    return [row | below for row, below in zip(one, other)]


def touches(marks, region):
    """Whether a pixel of a region of the image is marked."""
    _, x, y, width, height = region
    bits = bits_of(x, width)
    return any([(row & bits) != 0 for row in marks[y:y + height]])


def marks_between(rows, wishes, other_rows, other_wishes):
    """The marks of a change from an image and wishes to others, whose regions lie in the image."""
    marks = [differing_bits(rows[y], other_rows[y]) for y in range(len(rows))]
    for regions, other_regions in zip(wishes, other_wishes):
        for region in parted(regions, other_regions):
            _, x, y, width, height = region
            for at in range(y, y + height):
                marks[at] = marks[at] | bits_of(x, width)
    return marks


def differing_bits(row, other):
    """The bits of the columns in which two rows of the same length differ."""
    return sum([1 << x for x in range(len(row)) if row[x] != other[x]])


def parted(regions, others):
    """The regions that are among the ones and not among the others, or the other way round."""
    return [one for one in regions if one not in others] + [one for one in others if one not in regions]
