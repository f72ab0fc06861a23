import unittest

from surelyread.errors import BadReading
from surelyread.grammars import parse_grammar
from surelyread.readings import (
    comes_first, fills, from_integers, leaves, price, regions, text_of, to_integers)
from tests.brute import readings

INK = parse_grammar("plain w white; plain b black cost 1; across page = (w 1 to 3 | b 1)*;")

# 0 w, 1 l (2 wide, 3 high), 2 i (1 wide, 3 high), 3 line, 4 page, 5 sheet
LETTERS = parse_grammar(
    'plain w white cost 1; shape l "l" cost 20 { "#." "#." "##" } shape i "i" cost 30 { "#" "#" "#" }'
    ' across line join "-" = (l cost 100 | i cost 200), (w 1 to 2 cost 300, (l | i))*;'
    ' down page join "/" = line 3 cost 700, (w 1 to 2, line 3)*;'
    " across sheet = page 1 to 9, (w 1, page 1 to 9)*;")


class Fills(unittest.TestCase):
    def check(self, parts, region, reading, expected):
        with self.subTest(region=region, reading=reading):
            self.assertIs(fills(parts, region, reading), expected)

    def test_plain_parts(self):
        for region in ((0, 0, 0, 1, 1), (0, 3, 5, 2, 7), (1, 0, 0, 16, 1), (0, 0, 0, 40, 30)):
            self.check(INK, region, (), True)
        self.check(INK, (0, 0, 0, 1, 1), ((0, 1, ()),), False)

    def test_shapes(self):
        self.check(LETTERS, (1, 0, 0, 2, 3), (), True)
        self.check(LETTERS, (1, 7, 4, 2, 3), (), True)
        for width, height in ((1, 3), (3, 3), (2, 2), (2, 4), (3, 2), (1, 1)):
            self.check(LETTERS, (1, 0, 0, width, height), (), False)
        self.check(LETTERS, (1, 0, 0, 2, 3), ((0, 2, ()),), False)

    def test_shapes_of_one_row_or_column(self):
        parts = parse_grammar('shape r { "#.#" } shape c { "#" "." } shape d { "#" }')
        sizes = [(width, height) for width in range(1, 5) for height in range(1, 5)]
        for number, pattern in ((0, (3, 1)), (1, (1, 2)), (2, (1, 1))):
            for size in sizes:
                self.check(parts, (number, 0, 0) + size, (), size == pattern)

    def test_strips(self):
        region = (2, 0, 0, 3, 1)
        for reading in (((0, 3, ()),), ((0, 2, ()), (1, 1, ())), ((1, 1, ()), (0, 2, ())),
                        ((1, 1, ()), (1, 1, ()), (1, 1, ()))):
            self.check(INK, region, reading, True)
            self.check(INK, (2, 5, 7, 3, 4), reading, True)

    def test_no_piece_at_all(self):
        self.check(INK, (2, 0, 0, 1, 1), (), False)
        self.check(INK, (2, 0, 0, 3, 1), (), False)

    def test_the_first_move(self):
        # Moves: 0 and 1 from state 0, 2 from state 1, 3 and 4 from state 2.
        self.check(LETTERS, (3, 0, 0, 2, 3), ((0, 2, ()),), True)
        self.check(LETTERS, (3, 0, 0, 1, 3), ((1, 1, ()),), True)
        self.check(LETTERS, (3, 0, 0, 2, 3), ((2, 2, ()),), False)
        self.check(LETTERS, (3, 0, 0, 2, 3), ((3, 2, ()),), False)
        self.check(LETTERS, (3, 0, 0, 4, 3), ((3, 2, ()), (2, 1, ()), (4, 1, ())), False)

    def test_a_later_move(self):
        self.check(LETTERS, (3, 0, 0, 5, 3), ((0, 2, ()), (2, 1, ()), (3, 2, ())), True)
        self.check(LETTERS, (3, 0, 0, 4, 3), ((0, 2, ()), (0, 2, ())), False)
        self.check(LETTERS, (3, 0, 0, 4, 3), ((0, 2, ()), (3, 2, ())), False)
        self.check(LETTERS, (3, 0, 0, 5, 3), ((0, 2, ()), (2, 1, ()), (0, 2, ())), False)
        self.check(LETTERS, (3, 0, 0, 5, 3), ((0, 2, ()), (2, 1, ()), (2, 2, ())), False)

    def test_a_size_too_small_or_too_great(self):
        parts = parse_grammar("plain w white; across p = (w 2 to 3)*;")
        self.check(parts, (1, 0, 0, 5, 1), ((0, 2, ()), (0, 3, ())), True)
        self.check(parts, (1, 0, 0, 1, 1), ((0, 1, ()),), False)
        self.check(parts, (1, 0, 0, 4, 1), ((0, 4, ()),), False)
        self.check(parts, (1, 0, 0, 4, 1), ((0, 1, ()), (0, 3, ())), False)
        self.check(parts, (1, 0, 0, 6, 1), ((0, 2, ()), (0, 4, ())), False)
        self.check(parts, (1, 0, 0, 2, 1), ((0, 2, ()), (0, 0, ())), False)
        self.check(parts, (1, 0, 0, 2, 1), ((0, 3, ()), (0, -1, ())), False)

    def test_the_sum_of_the_sizes(self):
        self.check(INK, (2, 0, 0, 3, 1), ((0, 2, ()),), False)
        self.check(INK, (2, 0, 0, 3, 1), ((0, 2, ()), (0, 2, ())), False)
        self.check(INK, (2, 0, 0, 1, 3), ((0, 3, ()),), False)
        self.check(INK, (2, 0, 0, 1, 3), ((0, 1, ()),), True)

    def test_the_extent_of_down_is_the_height(self):
        parts = parse_grammar("plain w white; down p = (w 1 to 3)*;")
        self.check(parts, (1, 0, 0, 2, 3), ((0, 3, ()),), True)
        self.check(parts, (1, 0, 0, 3, 2), ((0, 3, ()),), False)
        self.check(parts, (1, 0, 0, 3, 2), ((0, 2, ()),), True)

    def test_the_end(self):
        self.check(LETTERS, (3, 0, 0, 3, 3), ((0, 2, ()), (2, 1, ())), False)
        parts = parse_grammar("plain w white; plain b black; across p = w 1, b 1, w 1?;")
        self.check(parts, (2, 0, 0, 1, 1), ((0, 1, ()),), False)
        self.check(parts, (2, 0, 0, 2, 1), ((0, 1, ()), (1, 1, ())), True)
        self.check(parts, (2, 0, 0, 3, 1), ((0, 1, ()), (1, 1, ()), (2, 1, ())), True)

    def test_inner_readings(self):
        line = ((0, 2, ()), (2, 1, ()), (4, 1, ()))
        self.check(LETTERS, (4, 0, 0, 4, 3), ((0, 3, line),), True)
        self.check(LETTERS, (4, 0, 0, 4, 3), ((0, 3, ()),), False)
        self.check(LETTERS, (4, 0, 0, 4, 3), ((0, 3, line[:1]),), False)
        self.check(LETTERS, (4, 0, 0, 4, 3), ((0, 3, ((0, 2, ()), (2, 1, ()), (4, 2, ()))),), False)
        self.check(LETTERS, (4, 0, 0, 4, 7), ((0, 3, line), (1, 1, ()), (2, 3, line)), True)
        self.check(LETTERS, (4, 0, 0, 4, 7), ((0, 3, line), (1, 1, line), (2, 3, line)), False)
        self.check(LETTERS, (4, 0, 0, 4, 7), ((0, 3, line), (1, 1, ()), (2, 3, ())), False)
        self.check(INK, (2, 0, 0, 2, 1), ((0, 2, ((0, 2, ()),)),), False)

    def test_a_shape_of_another_size_than_its_pattern(self):
        self.check(LETTERS, (3, 0, 0, 2, 4), ((0, 2, ()),), False)
        self.check(LETTERS, (3, 0, 0, 2, 2), ((0, 2, ()),), False)
        parts = parse_grammar('shape s { "##" "##" } across p = (s 1 to 3)*; down q = (s 1 to 3)*;')
        self.check(parts, (1, 0, 0, 2, 2), ((0, 2, ()),), True)
        self.check(parts, (1, 0, 0, 1, 2), ((0, 1, ()),), False)
        self.check(parts, (1, 0, 0, 3, 2), ((0, 3, ()),), False)
        self.check(parts, (1, 0, 0, 3, 2), ((0, 1, ()), (0, 2, ())), False)
        self.check(parts, (2, 0, 0, 2, 2), ((0, 2, ()),), True)
        self.check(parts, (2, 0, 0, 2, 3), ((0, 3, ()),), False)
        self.check(parts, (2, 0, 0, 3, 2), ((0, 2, ()),), False)

    def test_a_number_of_a_move_that_there_is_not(self):
        for number in (2, 3, 100, -1, -2, -100):
            self.check(INK, (2, 0, 0, 1, 1), ((number, 1, ()),), False)
            self.check(INK, (2, 0, 0, 2, 1), ((0, 1, ()), (number, 1, ())), False)
        parts = parse_grammar("plain w white; across p = w 1;")
        self.check(parts, (1, 0, 0, 1, 1), ((0, 1, ()),), True)
        self.check(parts, (1, 0, 0, 1, 1), ((-1, 1, ()),), False)

    def test_all_readings_of_some_regions(self):
        for parts, region, count in ((INK, (2, 0, 0, 4, 2), 33), (LETTERS, (4, 2, 1, 5, 7), 16),
                                     (LETTERS, (5, 0, 0, 6, 3), 17)):
            found = readings(parts, region)
            self.assertEqual(len(found), count)
            for reading in found:
                self.check(parts, region, reading, True)
                self.check(parts, region[:3] + (region[3] + 1, region[4]), reading, False)
                self.check(parts, region, reading + ((0, 1, ()),), False)
                self.check(parts, region, reading[1:], False)
                self.check(parts, region, reading[:-1], False)


class Integers(unittest.TestCase):
    def test_example_of_the_document(self):
        reading = from_integers(INK, (2, 0, 0, 3, 1), [0, 2, 1, 1, -1])
        self.assertEqual(reading, ((0, 2, ()), (1, 1, ())))
        self.assertEqual(regions(INK, (2, 0, 0, 3, 1), reading),
                         [(2, 0, 0, 3, 1), (0, 0, 0, 2, 1), (1, 2, 0, 1, 1)])
        self.assertEqual(price(INK, (2, 0, 0, 3, 1), reading), 1)

    def test_to_integers(self):
        self.assertEqual(to_integers(()), [])
        self.assertEqual(to_integers(((0, 2, ()), (1, 1, ()))), [0, 2, 1, 1, -1])
        line = ((0, 2, ()), (2, 1, ()), (4, 1, ()))
        self.assertEqual(to_integers(((0, 3, line), (1, 1, ()), (2, 3, line[:1]))),
                         [0, 3, 0, 2, 2, 1, 4, 1, -1, 1, 1, 2, 3, 0, 2, -1, -1])
        self.assertIs(type(to_integers(())), list)

    def test_leaves(self):
        self.assertEqual(from_integers(LETTERS, (0, 3, 1, 5, 4), []), ())
        self.assertEqual(from_integers(LETTERS, (1, 3, 1, 2, 3), []), ())
        for region, integers in (((0, 0, 0, 1, 1), [-1]), ((0, 0, 0, 1, 1), [0]),
                                 ((1, 0, 0, 2, 3), [-1]), ((1, 0, 0, 2, 2), []),
                                 ((1, 0, 0, 3, 3), [])):
            self.check_refused(LETTERS, region, integers)

    def check_refused(self, parts, region, integers):
        with self.subTest(region=region, integers=integers):
            with self.assertRaises(BadReading):
                from_integers(parts, region, integers)

    def test_integers_are_read_back(self):
        for parts, region in ((INK, (2, 3, 4, 4, 2)), (LETTERS, (4, 2, 1, 5, 7)),
                              (LETTERS, (5, 0, 0, 6, 3)), (LETTERS, (3, 0, 0, 8, 3))):
            for reading in readings(parts, region):
                integers = to_integers(reading)
                kept = list(integers)
                self.assertEqual(from_integers(parts, region, integers), reading)
                self.assertEqual(integers, kept)

    def test_integers_of_no_reading(self):
        region = (2, 0, 0, 3, 1)
        for integers in ([], [-1], [0], [0, 3], [0, 2, 1], [0, 2, 1, 1], [0, 2, -1], [3, -1], [0, -1],
                         [0, 2, 1, 1, -1, -1], [0, 2, 1, 1, -1, 0], [0, 2, 1, 1, -2], [2, 3, -1],
                         [-2, 3, -1], [0, 4, -1], [0, 0, 0, 3, -1], [1, 2, 1, 1, -1], [0, 2, 0, 2, -1],
                         [0, 2, 1, -1], [0, 2, -1, 1, 1, -1], [0, 3, -1, 0], [100, 3, -1],
                         [0, 3, 10 ** 9], [10 ** 9, 10 ** 9, -1], [-1, 0, 3, -1], [0, -1, -1]):
            self.check_refused(INK, region, integers)

    def test_integers_of_a_reading_changed(self):
        for parts, region in ((INK, (2, 0, 0, 3, 1)), (LETTERS, (4, 2, 1, 4, 7)),
                              (LETTERS, (5, 0, 0, 4, 3))):
            rows = [to_integers(reading) for reading in readings(parts, region)]
            right = {tuple(row) for row in rows}
            self.assertEqual(len(right), len(rows))
            for row in rows:
                for changed in self.changes_of(row):
                    with self.subTest(region=region, integers=changed):
                        kept = list(changed)
                        if tuple(changed) in right:
                            self.assertEqual(
                                to_integers(from_integers(parts, region, changed)), changed)
                        else:
                            with self.assertRaises(BadReading):
                                from_integers(parts, region, changed)
                        self.assertEqual(changed, kept)

    def changes_of(self, row):
        for at in range(len(row) + 1):
            yield row[:at]
            for number in (-2, -1, 0, 1, 2, 3, 4, 5, 9):
                yield row[:at] + [number] + row[at:]
                yield row[:at] + [number] + row[at + 1:]
            yield row[:at] + row[at + 1:]

    def test_integers_of_another_region(self):
        self.assertEqual(from_integers(INK, (2, 0, 0, 2, 1), [0, 2, -1]), ((0, 2, ()),))
        self.check_refused(INK, (2, 0, 0, 3, 1), [0, 2, -1])
        self.check_refused(INK, (2, 0, 0, 1, 2), [0, 2, -1])
        self.check_refused(LETTERS, (3, 0, 0, 2, 4), [0, 2, -1])


class Told(unittest.TestCase):
    """Regions, leaves, prices and texts of readings of strips in strips."""

    LINE = ((0, 2, ()), (2, 1, ()), (4, 1, ()))
    OTHER = ((1, 1, ()), (2, 1, ()), (3, 2, ()))
    PAGE = ((0, 3, LINE), (1, 2, ()), (2, 3, OTHER))
    NARROW = ((0, 3, ((1, 1, ()),)), (1, 2, ()), (2, 3, ((1, 1, ()),)))
    SHEET = ((0, 4, PAGE), (1, 1, ()), (2, 1, NARROW))

    def test_regions(self):
        self.assertEqual(regions(LETTERS, (4, 5, 6, 4, 8), self.PAGE), [
            (4, 5, 6, 4, 8),
            (3, 5, 6, 4, 3), (1, 5, 6, 2, 3), (0, 7, 6, 1, 3), (2, 8, 6, 1, 3),
            (0, 5, 9, 4, 2),
            (3, 5, 11, 4, 3), (2, 5, 11, 1, 3), (0, 6, 11, 1, 3), (1, 7, 11, 2, 3)])
        self.assertEqual(regions(LETTERS, (5, 0, 0, 6, 8), self.SHEET), [
            (5, 0, 0, 6, 8), (4, 0, 0, 4, 8),
            (3, 0, 0, 4, 3), (1, 0, 0, 2, 3), (0, 2, 0, 1, 3), (2, 3, 0, 1, 3),
            (0, 0, 3, 4, 2),
            (3, 0, 5, 4, 3), (2, 0, 5, 1, 3), (0, 1, 5, 1, 3), (1, 2, 5, 2, 3),
            (0, 4, 0, 1, 8), (4, 5, 0, 1, 8),
            (3, 5, 0, 1, 3), (2, 5, 0, 1, 3), (0, 5, 3, 1, 2), (3, 5, 5, 1, 3), (2, 5, 5, 1, 3)])

    def test_leaves(self):
        self.assertEqual(leaves(LETTERS, (4, 5, 6, 4, 8), self.PAGE), [
            (1, 5, 6, 2, 3), (0, 7, 6, 1, 3), (2, 8, 6, 1, 3), (0, 5, 9, 4, 2),
            (2, 5, 11, 1, 3), (0, 6, 11, 1, 3), (1, 7, 11, 2, 3)])
        self.assertEqual(leaves(LETTERS, (5, 1, 2, 6, 8), self.SHEET)[7:], [
            (0, 5, 2, 1, 8), (2, 6, 2, 1, 3), (0, 6, 5, 1, 2), (2, 6, 7, 1, 3)])

    def test_regions_of_leaves(self):
        self.assertEqual(regions(LETTERS, (0, 3, 4, 5, 6), ()), [(0, 3, 4, 5, 6)])
        self.assertEqual(leaves(LETTERS, (1, 3, 4, 2, 3), ()), [(1, 3, 4, 2, 3)])
        self.assertIs(type(leaves(LETTERS, (1, 3, 4, 2, 3), ())), list)

    def test_prices(self):
        self.assertEqual(price(LETTERS, (0, 3, 4, 5, 6), ()), 1)
        self.assertEqual(price(LETTERS, (1, 3, 4, 2, 3), ()), 20)
        line = (100 + 20) + (300 + 1) + 30
        other = (200 + 30) + (300 + 1) + 20
        page = 700 + line + 1 + other
        narrow = 700 + 230 + 1 + 230
        self.assertEqual(price(LETTERS, (3, 0, 0, 4, 3), self.LINE), line)
        self.assertEqual(price(LETTERS, (3, 1, 2, 4, 3), self.OTHER), other)
        self.assertEqual(price(LETTERS, (4, 5, 6, 4, 8), self.PAGE), page)
        self.assertEqual(price(LETTERS, (5, 0, 0, 6, 8), self.SHEET), page + 1 + narrow)

    def test_texts(self):
        self.assertEqual(text_of(LETTERS, (0, 3, 4, 5, 6), ()), "")
        self.assertEqual(text_of(LETTERS, (1, 3, 4, 2, 3), ()), "l")
        self.assertEqual(text_of(LETTERS, (3, 0, 0, 4, 3), self.LINE), "l-i")
        self.assertEqual(text_of(LETTERS, (4, 5, 6, 4, 8), self.PAGE), "l-i/i-l")
        self.assertEqual(text_of(LETTERS, (5, 0, 0, 6, 8), self.SHEET), "l-i/i-li/i")

    def test_texts_with_empty_labels_and_joints(self):
        parts = parse_grammar(
            'plain e white; plain x black "x"; plain two white "a\nb"; across s = (e 1 | x 1 | two 1)*;'
            ' across t join ", " = (e 1 | s 1 to 4)*; down d = (t 1 | s 1)*;')

        def text(region, *integers):
            return text_of(parts, region, from_integers(parts, region, list(integers)))
        self.assertEqual(text((3, 0, 0, 3, 1), 0, 1, 1, 1, 2, 1, -1), "xa\nb")
        self.assertEqual(text((3, 0, 0, 2, 1), 0, 1, 0, 1, -1), "")
        # The pieces e and those with an empty text leave no joint.
        self.assertEqual(
            text((4, 0, 0, 5, 1), 0, 1, 1, 1, 1, 1, -1, 0, 1, 1, 1, 0, 1, -1, 1, 1, 1, 1, -1, -1), "x, x")
        self.assertEqual(text((4, 0, 0, 2, 1), 0, 1, 1, 1, 0, 1, -1, -1), "")
        self.assertEqual(
            text((5, 0, 0, 1, 3), 1, 1, 1, 1, -1, 0, 1, 0, 1, -1, 1, 1, 2, 1, -1, -1), "x\na\nb")

    def test_the_joint_of_each_strip_is_its_own(self):
        parts = parse_grammar('plain x black "x"; down c = (x 1)*; across r = (c 1)*;')
        reading = from_integers(parts, (2, 0, 0, 2, 2), [0, 1, 0, 1, 0, 1, -1, 0, 1, 0, 1, 0, 1, -1, -1])
        self.assertEqual(text_of(parts, (2, 0, 0, 2, 2), reading), "x\nxx\nx")

    def test_what_is_returned_is_new(self):
        found = regions(INK, (2, 0, 0, 1, 1), ((0, 1, ()),))
        found.clear()
        self.assertEqual(len(regions(INK, (2, 0, 0, 1, 1), ((0, 1, ()),))), 2)


class ComesFirst(unittest.TestCase):
    def check(self, one, other):
        with self.subTest(one=one, other=other):
            self.assertIs(comes_first(one, other), True)
            self.assertIs(comes_first(other, one), False)
            self.assertIs(comes_first(one, one), False)
            self.assertIs(comes_first(other, other), False)

    def test_a_move_decides(self):
        self.check(((0, 1, ()),), ((1, 1, ()),))
        self.check(((0, 3, ()),), ((1, 1, ()), (0, 2, ())))
        self.check(((0, 1, ()), (0, 2, ())), ((0, 1, ()), (1, 1, ()), (0, 1, ())))
        self.check(((2, 1, ()),), ((10, 1, ()),))

    def test_a_size_decides(self):
        self.check(((0, 1, ()), (1, 1, ())), ((0, 2, ()),))
        self.check(((1, 1, ()), (0, 1, ()), (1, 1, ())), ((1, 1, ()), (0, 2, ())))
        self.check(((0, 2, ()), (0, 10, ())), ((0, 10, ()), (0, 2, ())))

    def test_an_inner_reading_decides(self):
        one = ((0, 1, ()), (0, 1, ()))
        self.check(((0, 3, one), (1, 2, ())), ((0, 3, ((0, 2, ()),)), (0, 2, ())))
        self.check(((0, 3, one),), ((0, 3, ((1, 1, ()), (0, 1, ()))),))
        self.check(((0, 3, one), (0, 1, one)), ((0, 3, one), (0, 1, ((0, 2, ()),))))
        self.check(((0, 1, ((0, 1, one),)),), ((0, 1, ((0, 1, ((0, 1, ()), (1, 1, ()))),)),))

    def test_the_first_difference_decides(self):
        self.check(((0, 2, ()), (1, 1, ())), ((1, 1, ()), (0, 1, ()), (0, 1, ())))
        self.check(((0, 1, ()), (1, 2, ())), ((0, 2, ()), (0, 1, ())))

    def test_the_same_reading(self):
        self.assertIs(comes_first((), ()), False)

    def test_all_readings_of_some_regions(self):
        for parts, region in ((INK, (2, 0, 0, 4, 1)), (LETTERS, (5, 0, 0, 6, 3))):
            found = readings(parts, region)
            for at in range(len(found)):
                for other in range(len(found)):
                    self.assertIs(comes_first(found[at], found[other]), at < other)


if __name__ == "__main__":
    unittest.main()
