"""Images: tuples of rows, "." for a white pixel and "#" for a black one."""

from surelyread.errors import Fault, OutsideImage, TooLarge

MOST_PIXELS = 16


def parse_image(text):
    """The image of a text."""
    rows = text.split("\n")
    # A newline behind the last row ends this row and begins no other one.
    if len(rows) > 1 and rows[-1] == "":
        rows.pop()
    for at in range(len(rows)):
        check_row(rows[at], at + 1, len(rows[0]))
    if too_wide_or_high(rows):
        raise TooLarge("image")
    return tuple(rows)


def check_row(row, line, width):
    """Raises the first fault of a row that should have this width."""
    if row == "":
        raise Fault(line, 1, "not a row of pixels")
    for at in range(len(row)):
        if row[at] not in ".#":
            raise Fault(line, at + 1, "unexpected character")
        if at == width:
            raise Fault(line, at + 1, "row of another length")
    if len(row) < width:
        raise Fault(line, len(row) + 1, "row of another length")


def is_row(text):
    """Whether the text is a row of pixels."""
    return text != "" and all([character in ".#" for character in text])


def too_wide_or_high(rows):
    """Whether there are more columns or rows than an image or a pattern may have."""
    return len(rows) > MOST_PIXELS or len(rows[0]) > MOST_PIXELS


def image_text(rows):
    """The normal text of an image."""
    return "".join([row + "\n" for row in rows])


def pixel(rows, x, y):
    """Whether the pixel is black; pixels outside of the image are white."""
    if not (0 <= y < len(rows) and 0 <= x < len(rows[0])):
        return False
    return rows[y][x] == "#"


def window(rows, region):
    """The image of a region, wherever it lies; pixels outside of the image are white."""
    _, x, y, width, height = region
    ahead = min(max(-x, 0), width)
    shown = []
    for at in range(y, y + height):
        row = rows[at][max(x, 0):max(x + width, 0)] if 0 <= at < len(rows) else ""
        shown.append("." * ahead + row + "." * (width - ahead - len(row)))
    return tuple(shown)


def differing(one, other):
    """In how many pixels two images of the same size differ."""
    count = 0
    for y in range(len(one)):
        for x in range(len(one[y])):
            if one[y][x] != other[y][x]:
                count += 1
    return count


def patched(rows, x, y, patch):
    """The image in which the pixels of the patch stand at the column and the row."""
    right = x + len(patch[0])
    below = y + len(patch)
    if x < 0 or y < 0 or right > len(rows[0]) or below > len(rows):
        raise OutsideImage()
    changed = list(rows)
    for at in range(len(patch)):
        row = rows[y + at]
        changed[y + at] = row[:x] + patch[at] + row[right:]
    return tuple(changed)
