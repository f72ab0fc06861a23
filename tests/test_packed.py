import random
import unittest

from surelyread.best import best
from surelyread.errors import BadNumbers, BadReading
from surelyread.grammars import parse_grammar
from surelyread.packed import pack, unpack
from surelyread.strips import is_strip
from tests.brute import (
    NO_WISHES, Maker, cases, drawn_black, extent_of, leaves_of, machine_of, piece_of, pixels_of, ranked, readings)

INK = parse_grammar("plain w white; plain b black cost 1; across page = (w 1 to 3 | b 1)*;")

# 0 l, 1 t, 2 gap, 3 line, 4 page
LETTERS = parse_grammar('shape l "l" { "#." "#." "##" } shape t "t" { "##" ".#" ".#" } plain gap white;'
                        " across line = (l | t), (gap 1, (l | t))*; down page join \"/\" = line 3, (gap 1, line 3)*;")
LETTER_ROWS = ("##.##", "#...#", "##..#", ".....", "##.#.", ".###.", ".#.##")
LT = [0, 2, 2, 1, 4, 2, 255]
TL = [1, 2, 2, 1, 3, 2, 255]
LETTER_NUMBERS = [5, 7, 0, 3, *LT, 1, 1, 2, 3, *TL, 255, 1, 26]


class Wrong(Exception):
    """A number cannot stand at its index, or the list ends too early."""


def need(good):
    if not good:
        raise Wrong


def described(parts, numbers):
    """(the image that the numbers describe, None), or (None, the place of the fault)."""
    waiting = list(numbers)
    try:
        return image_of(parts, waiting), None
    except (Wrong, IndexError):
        return None, len(numbers) - len(waiting)


def image_of(parts, waiting):
    """The image; what was read is taken from the beginning of what is waiting."""
    need(1 <= waiting[0] <= 16)
    width = waiting.pop(0)
    page = parts[-1]
    need(1 <= waiting[0] <= 16)
    need(page[0] != "shape" or (len(page[4][0]), len(page[4])) == (width, waiting[0]))
    height = waiting.pop(0)
    region = (len(parts) - 1, 0, 0, width, height)
    blacks = take_reading(parts, region, waiting)
    pixels = [(x, y) in blacks for y in range(height) for x in range(width)]
    left = list(range(len(pixels)))
    first = True
    while waiting:
        need(waiting[0] >= (0 if first else 1))
        left = left[waiting[0] - (0 if first else 1):]
        need(left)
        pixels[left.pop(0)] ^= True
        waiting.pop(0)
        first = False
    signs = "".join("#" if pixel else "." for pixel in pixels)
    return tuple(signs[at:at + width] for at in range(0, len(signs), width))


def take_reading(parts, region, waiting):
    """The black pixels that a reading draws."""
    part = parts[region[0]]
    if not is_strip(part):
        return {at for at in pixels_of(region) if drawn_black(part, region, *at)}
    ends, moves = machine_of(parts, region[0])
    blacks = set()
    state = offset = 0
    while waiting[0] != 255:
        need(0 <= waiting[0] < len(moves) and moves[waiting[0]][0] == state)
        _, state, inner, least, most, _ = moves[waiting.pop(0)]
        piece = piece_of(parts, region, offset, waiting[0], inner)
        need(least <= waiting[0] <= most and offset + waiting[0] <= extent_of(parts, region))
        need(is_strip(parts[inner]) or readings(parts, piece))
        offset += waiting.pop(0)
        blacks |= take_reading(parts, piece, waiting)
    need(offset == extent_of(parts, region) and ends[state])
    waiting.pop(0)
    return blacks


def numbers_of(parts, rows, reading):
    """The numbers of a page with a reading, told by its definition."""
    page = (len(parts) - 1, 0, 0, len(rows[0]), len(rows))
    blacks = {at for leaf in leaves_of(parts, page, reading) for at in pixels_of(leaf)
              if drawn_black(parts[leaf[0]], leaf, *at)}
    wrong = [y * len(rows[0]) + x for y, row in enumerate(rows) for x, sign in enumerate(row)
             if ((x, y) in blacks) != (sign == "#")]
    return ([len(rows[0]), len(rows)] + integers_of(parts, page[0], reading)
            + wrong[:1] + [other - one for one, other in zip(wrong, wrong[1:])])


def integers_of(parts, number, reading):
    if not is_strip(parts[number]):
        return []
    found = []
    for move, size, inner in reading:
        found += [move, size] + integers_of(parts, machine_of(parts, number)[1][move][2], inner)
    return found + [255]


def first_difference(one, other):
    for at in range(max(len(one), len(other))):
        if one[at:at + 1] != other[at:at + 1]:
            return at
    return None


def told_of(parts, numbers):
    """What unpack must tell: (image, None), or (None, place)."""
    rows, place = described(parts, numbers)
    if rows is None:
        return None, place
    page = (len(parts) - 1, 0, 0, len(rows[0]), len(rows))
    place = first_difference(numbers, numbers_of(parts, rows, best(parts, page, rows, NO_WISHES)[1]))
    return (rows, None) if place is None else (None, place)


def changes_of(numbers):
    """The numbers with one changed, left out or put in, and cut off."""
    values = sorted({*range(-1, 20), 24, 25, 40, 63, 64, 128, 254, 255, 256, 257, 10 ** 20, -255})
    found = [numbers[:at] for at in range(len(numbers))]
    for at in range(len(numbers) + 1):
        found.extend(numbers[:at] + [value] + numbers[at:] for value in values)
        if at < len(numbers):
            found.append(numbers[:at] + numbers[at + 1:])
            found.extend(numbers[:at] + [value] + numbers[at + 1:] for value in values if value != numbers[at])
    return found


class Cases(unittest.TestCase):
    def check_bad(self, parts, numbers, place):
        with self.subTest(numbers=numbers, place=place):
            with self.assertRaises(BadNumbers) as caught:
                unpack(parts, numbers)
            self.assertIs(type(caught.exception), BadNumbers)
            self.assertEqual(caught.exception.place, place)

    def check_told(self, parts, numbers):
        """Checks what is told of a list; whether it is read."""
        rows, place = told_of(parts, numbers)
        if rows is None:
            self.check_bad(parts, numbers, place)
        else:
            with self.subTest(parts=parts, numbers=numbers):
                self.assertEqual(unpack(parts, numbers), rows)
                self.assertEqual(pack(parts, rows), numbers)
        return rows is not None


class Pack(Cases):
    def check(self, parts, rows, expected):
        with self.subTest(parts=parts, rows=rows):
            found = pack(parts, rows)
            self.assertEqual(found, expected)
            self.assertIs(type(found), list)
            told = unpack(parts, found)
            self.assertEqual(told, rows)
            self.assertIs(type(told), tuple)

    def test_example_of_the_document(self):
        self.check(INK, ("#.#",), [3, 1, 0, 1, 0, 1, 0, 1, 255, 0, 2])

    def test_strips_in_strips(self):
        self.check(LETTERS, LETTER_ROWS, LETTER_NUMBERS)

    def test_wrong_pixels(self):
        self.check(INK, ("...",), [3, 1, 0, 1, 0, 1, 0, 1, 255])
        self.check(INK, ("#..",), [3, 1, 0, 1, 0, 1, 0, 1, 255, 0])
        self.check(INK, ("..#",), [3, 1, 0, 1, 0, 1, 0, 1, 255, 2])
        self.check(INK, ("##.", "##."), [3, 2, 1, 1, 1, 1, 0, 1, 255])
        self.check(INK, ("##.", "..#", "##."), [3, 3, 0, 1, 0, 1, 0, 1, 255, 0, 1, 4, 1, 1])
        white = parse_grammar("plain w white;")
        self.check(white, ("." * 16,) * 15 + ("." * 15 + "#",), [16, 16, 255])
        self.check(white, ("#" + "." * 15,) + ("." * 16,) * 14 + ("." * 15 + "#",), [16, 16, 0, 255])
        self.check(white, ("#" * 16,) * 16, [16, 16, 0] + [1] * 255)

    def test_leaves(self):
        self.check(parse_grammar("plain b black;"), ("#.", ".#"), [2, 2, 1, 1])
        parts = parse_grammar('shape s { "#.#" }')
        self.check(parts, ("#.#",), [3, 1])
        self.check(parts, (".##",), [3, 1, 0, 1])

    def test_all_images_of_a_size(self):
        for parts, region, _, _ in cases(161, 12, limit=60):
            width, height = region[3:]
            if readings(parts, (len(parts) - 1, 0, 0, width, height)) and width * height <= 6:
                seen = []
                for at in range(2 ** (width * height)):
                    signs = f"{at:0{width * height}b}".replace("0", ".").replace("1", "#")
                    rows = tuple(signs[at:at + width] for at in range(0, len(signs), width))
                    numbers = pack(parts, rows)
                    self.assertEqual(unpack(parts, numbers), rows)
                    self.assertNotIn(numbers, seen)
                    seen.append(numbers)

    def test_many_pages(self):
        packed = 0
        for parts, region, _, _ in cases(162, 150, limit=120):
            rows = Maker(sum(region)).image(*region[3:])
            found = ranked(parts, (len(parts) - 1, 0, 0, *region[3:]), rows, NO_WISHES)
            if found:
                self.check(parts, rows, numbers_of(parts, rows, found[0][1]))
                packed += 1
            else:
                self.assertRaises(BadReading, pack, parts, rows)
        self.assertGreater(packed, 100)

    def test_no_reading(self):
        for parts, rows in ((LETTERS, ("#.", "##")), (parse_grammar('shape s { "#.#" }'), ("#.#", "#.#")),
                            (parse_grammar("plain w white; across page = w 3;"), ("..",))):
            with self.assertRaises(BadReading) as caught:
                pack(parts, rows)
            self.assertIs(type(caught.exception), BadReading)

    def test_large_pages(self):
        parts = parse_grammar("plain w white cost 1; plain b black cost 1; across line = (w | b)*;"
                              " down page = (line 1 | line 2 cost 1)*;")
        for seed in range(4):
            rows = Maker(seed).image(16, 16)
            numbers = pack(parts, rows)
            self.assertEqual((numbers[:2], min(numbers) >= 0, max(numbers)), ([16, 16], True, 255))
            self.assertEqual(unpack(parts, numbers), rows)


class Sizes(Cases):
    def test_lists_that_end_there(self):
        for parts in (INK, LETTERS, parse_grammar("plain w white;"), parse_grammar('shape s { "#" }')):
            self.check_bad(parts, [], 0)
            for width in (1, 3, 16):
                self.check_bad(parts, [width], 1)
            for number in (0, 17, 255, 256, -1, -16, 10 ** 20):
                self.check_bad(parts, [number], 0)
                self.check_bad(parts, [number, 1], 0)
                self.check_bad(parts, [1, number], 1)
                self.check_bad(parts, [16, number, 0, 1, 255], 1)
                self.check_bad(parts, [number, number, number], 0)

    def test_a_shape_as_the_page(self):
        parts = parse_grammar('shape s { "#." "##" "##" }')
        self.assertEqual(unpack(parts, [2, 3]), ("#.", "##", "##"))
        self.assertEqual(unpack(parts, [2, 3, 1, 4]), ("##", "##", "#."))
        # Whatever is wrong with the size, it shows at the height.
        for width, height in ((3, 3), (2, 2), (3, 2), (1, 1), (16, 16)):
            self.check_bad(parts, [width, height], 1)
            self.check_bad(parts, [width, height, 999], 1)
        self.check_bad(parts, [3], 1)
        self.check_bad(parts, [2, 3, 6], 2)
        self.check_bad(parts, [2, 3, 255], 2)

    def test_a_plain_part_as_the_page(self):
        parts = parse_grammar("plain b black;")
        self.assertEqual(unpack(parts, [2, 2, 3]), ("##", "#."))
        self.assertEqual(unpack(parts, [16, 16, 255]), ("#" * 16,) * 15 + ("#" * 15 + ".",))
        self.check_bad(parts, [2, 2, 4], 2)
        self.check_bad(parts, [2, 2, 0, 4], 3)
        self.check_bad(parts, [2, 2, 0, 0], 3)
        self.check_bad(parts, [2, 2, 1, 1, 1, 1], 5)
        self.check_bad(parts, [16, 16, 256], 2)
        self.check_bad(parts, [16, 16, 1, 255], 3)
        self.check_bad(parts, [16, 16, -1], 2)


class Readings(Cases):
    # Two states: behind a w comes an s or the end.
    TWO = parse_grammar('plain w white; shape s { "##" } across page = (w 1 to 3, s?) | s;')

    def test_moves(self):
        # Moves 0 (w) and 1 (s) go from the state 0, and 2 (s) from the state behind w.
        self.assertEqual(unpack(self.TWO, [3, 1, 0, 1, 2, 2, 255]), (".##",))
        for number in (2, 3, 40, 254, -1, 256):
            self.check_bad(self.TWO, [3, 1, number, 1, 2, 2, 255], 2)
        for number in (0, 1, 3, -1, 254):
            self.check_bad(self.TWO, [3, 1, 0, 1, number, 2, 255], 4)
        # From the state behind s no move goes.
        for number in (0, 1, 2, 3):
            self.check_bad(self.TWO, [3, 1, 1, 2, number, 2, 255], 4)
        self.check_bad(self.TWO, [3, 1, 1, 2], 4)

    def test_sizes(self):
        for size in (0, 4, 255, 256, -1):
            self.check_bad(self.TWO, [5, 1, 0, size, 2, 2, 255], 3)
        self.assertEqual(unpack(self.TWO, [5, 1, 0, 3, 2, 2, 255]), ("...##",))
        # Beyond the extent, and not as wide or as high as the pattern.
        self.check_bad(self.TWO, [2, 1, 0, 3, 255], 3)
        self.check_bad(self.TWO, [2, 1, 0, 1, 2, 2, 255], 5)
        for size in (0, 1, 3):
            self.check_bad(self.TWO, [3, 1, 0, 1, 2, size, 255], 5)
        self.check_bad(self.TWO, [3, 2, 0, 1, 2, 2, 255], 5)
        self.check_bad(self.TWO, [3, 1, 0], 3)
        self.check_bad(self.TWO, [3, 1, 0, 1, 2], 5)

    def test_the_end_of_a_strip(self):
        self.check_bad(self.TWO, [3, 1, 255], 2)
        self.check_bad(self.TWO, [3, 1, 0, 1, 255], 4)
        self.check_bad(self.TWO, [3, 1, 0, 1], 4)
        self.check_bad(self.TWO, [3, 1], 2)
        self.assertEqual(unpack(self.TWO, [3, 1, 0, 3, 255]), ("...",))
        # At the end of the extent a move can stand, but no size behind it.
        self.check_bad(self.TWO, [3, 1, 0, 3], 4)
        self.check_bad(self.TWO, [3, 1, 0, 3, 2], 5)
        for size in (0, 1, 2, 255):
            self.check_bad(self.TWO, [3, 1, 0, 3, 2, size], 5)
        self.check_bad(self.TWO, [3, 1, 0, 3, 0], 4)
        parts = parse_grammar("plain w white; across page = w, w;")
        self.check_bad(parts, [3, 1, 0, 3, 255], 4)
        self.check_bad(parts, [3, 1, 0, 3, 1], 5)
        self.check_bad(parts, [3, 1, 0, 3, 1, 1], 5)

    def test_example_of_the_document(self):
        self.check_bad(parse_grammar("plain w white; across page = w 1;"), [1, 1, 0, 2, 255], 3)
        self.assertEqual(unpack(INK, [3, 1, 0, 1, 0, 1, 0, 1, 255, 0, 2]), ("#.#",))

    def test_strips_in_strips(self):
        self.check_bad(LETTERS, LETTER_NUMBERS[:4], 4)
        self.check_bad(LETTERS, [5, 7, 0, 3, 255], 4)
        self.check_bad(LETTERS, [5, 7, 0, 3, *LT, 255], 11)
        self.check_bad(LETTERS, [5, 7, 0, 3, *LT, 0], 11)
        self.check_bad(LETTERS, [5, 7, 0, 3, 0, 2, 2, 1, 4, 2, 2], 11)
        self.check_bad(LETTERS, [5, 7, 0, 3, 0, 2, 2, 1, 4, 2, 2, 1], 11)
        self.check_bad(LETTERS, [5, 7, 0, 3, 0, 2, 255], 6)
        # No shape is as high as a line of 2, which the page has not.
        self.check_bad(LETTERS, [5, 7, 0, 2, *LT], 3)

    def test_strips_whose_pieces_do_not_fit(self):
        # The line can have any height; its shape has the height 1 alone.
        parts = parse_grammar('shape s { "#" } across line = s*; down page = line*;')
        self.check_bad(parts, [2, 2, 0, 2, 0, 1, 0, 1, 255, 255], 5)
        self.check_bad(parts, [2, 2, 0, 2, 255], 4)
        self.assertEqual(unpack(parts, [2, 2, 0, 1, 0, 1, 0, 1, 255, 0, 1, 0, 1, 0, 1, 255, 255, 2]), ("##", ".#"))


class Pixels(Cases):
    def test_places(self):
        head = [3, 1, 0, 1, 0, 1, 0, 1, 255]
        for places, expected in (([], "..."), ([0], "#.."), ([1], ".#."), ([2], "..#"), ([0, 2], "#.#")):
            self.assertEqual(unpack(INK, head + places), (expected,))
        for places, at in (([3], 0), ([255], 0), ([-1], 0), ([256], 0), ([0, 0], 1), ([1, 0], 1), ([1, 2], 1),
                           ([2, 1], 1), ([0, 1, 0], 2), ([0, 1, 2], 2), ([0, 1, 1, 1], 3), ([0, -1], 1), ([2, -1], 1)):
            self.check_bad(INK, head + places, 9 + at)

    def test_places_of_several_rows(self):
        parts = parse_grammar("plain w white; down page = w;")
        self.assertEqual(unpack(parts, [3, 2, 0, 2, 255, 1, 3]), (".#.", ".#."))
        self.assertEqual(unpack(parts, [3, 2, 0, 2, 255, 5]), ("...", "..#"))
        self.check_bad(parts, [3, 2, 0, 2, 255, 6], 5)
        self.check_bad(parts, [3, 2, 0, 2, 255, 1, 5], 6)


class NotPacked(Cases):
    def test_another_reading_is_the_best_one(self):
        # ((0, 3, ()),) comes behind three pieces of 1; so does any other reading of a white line.
        self.check_bad(INK, [3, 1, 0, 3, 255], 3)
        self.check_bad(INK, [3, 1, 0, 1, 0, 2, 255], 5)
        self.check_bad(INK, [3, 1, 1, 1, 0, 1, 0, 1, 255], 2)
        self.check_bad(INK, [3, 1, 0, 1, 0, 1, 1, 1, 255], 6)
        self.check_bad(INK, [3, 1, 0, 1, 0, 1, 1, 1, 255, 2], 6)

    def test_wrong_pixels_for_which_another_reading_is_better(self):
        self.check_bad(INK, [1, 2, 0, 1, 255, 0, 1], 2)
        self.assertEqual(unpack(INK, [1, 2, 1, 1, 255]), ("#", "#"))
        self.assertEqual(unpack(INK, [1, 2, 0, 1, 255, 0]), ("#", "."))

    def test_faults_come_first(self):
        # No best reading either, but the list cannot go on at the last number.
        self.check_bad(INK, [3, 1, 0, 3, 255, 3], 5)
        self.check_bad(INK, [3, 1, 0, 3, 255, 0, 0], 6)
        self.check_bad(INK, [3, 1, 0, 3], 4)


class Changed(Cases):
    def test_each_change_of_a_page(self):
        read = 0
        for numbers in (LETTER_NUMBERS, LETTER_NUMBERS[:-2], [2, 3, 0, 3, 0, 2, 255, 255]):
            self.assertTrue(self.check_told(LETTERS, numbers))
            for wrong in changes_of(numbers):
                read += self.check_told(LETTERS, wrong)
        self.assertGreater(read, 20)

    def test_each_change_of_many_pages(self):
        chance = random.Random(163)
        read = changed = 0
        for parts, region, _, _ in cases(163, 80, limit=60):
            rows = Maker(sum(region)).image(*region[3:])
            if readings(parts, (len(parts) - 1, 0, 0, *region[3:])):
                changes = changes_of(pack(parts, rows))
                for wrong in chance.sample(changes, min(120, len(changes))):
                    read += self.check_told(parts, wrong)
                    changed += 1
        self.assertGreater(changed, 4000)
        self.assertGreater(read, 100)

    def test_readings_that_are_not_the_best_one(self):
        found = 0
        for parts, region, _, _ in cases(164, 60, limit=60):
            rows = Maker(sum(region)).image(*region[3:])
            for reading in readings(parts, (len(parts) - 1, 0, 0, *region[3:]))[:10]:
                found += not self.check_told(parts, numbers_of(parts, rows, reading))
        self.assertGreater(found, 150)

    def test_leaves(self):
        for text, rows in (("plain w white;", ("#.", ".#")), ('shape s { "#." ".#" }', ("##", ".#"))):
            parts = parse_grammar(text)
            for wrong in changes_of(pack(parts, rows)):
                self.check_told(parts, wrong)

    def test_arguments_are_not_changed(self):
        numbers = list(LETTER_NUMBERS)
        unpack(LETTERS, numbers)
        self.check_bad(LETTERS, numbers + [0], len(numbers))
        self.assertEqual(numbers, LETTER_NUMBERS)


if __name__ == "__main__":
    unittest.main()
