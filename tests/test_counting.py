import random
import unittest
from math import comb

from surelyread.counting import cost_counts, how_many, place_of, reading_at
from surelyread.errors import BadReading
from surelyread.grammars import parse_grammar
from tests.brute import NO_WISHES, all_allowed, cases, cost_of, ranked, readings, regions_of

INK = parse_grammar("plain w white; plain b black cost 1; across page = (w 1 to 3 | b 1)*;")
PAGE = (2, 0, 0, 2, 1)
W, B = (0, 1, ()), (1, 1, ())

# 2 to the 256 readings of a page of 16 rows and 16 columns, and of one row 2 to the 16.
BITS = parse_grammar("plain w white; plain b black; across line = (w 1 | b 1)*; down page = (line 1)*;")
BIT_PAGE = (3, 0, 0, 16, 16)


def allowed_of(parts, region, wishes):
    """The allowed readings, in their order."""
    return [reading for reading in readings(parts, region)
            if all_allowed(parts, regions_of(parts, region, reading), wishes)]


def bits_reading(place):
    """The reading of BITS that has the place."""
    digits = [1 if place >> (255 - at) & 1 else 0 for at in range(256)]
    lines = [tuple((digit, 1, ()) for digit in digits[at:at + 16]) for at in range(0, 256, 16)]
    return tuple((0, 1, line) for line in lines)


class Cases(unittest.TestCase):
    def check_refused(self, parts, region, wishes, reading):
        with self.subTest(region=region, wishes=wishes, reading=reading):
            with self.assertRaises(BadReading) as caught:
                place_of(parts, region, wishes, reading)
            self.assertIs(type(caught.exception), BadReading)

    def check_no_place(self, parts, region, wishes, place):
        with self.subTest(region=region, wishes=wishes, place=place):
            with self.assertRaises(BadReading) as caught:
                reading_at(parts, region, wishes, place)
            self.assertIs(type(caught.exception), BadReading)


class Places(Cases):
    def test_example_of_the_document(self):
        self.assertEqual(how_many(INK, PAGE, NO_WISHES), 5)
        self.assertEqual(reading_at(INK, PAGE, NO_WISHES, 0), (W, W))
        self.assertEqual(reading_at(INK, PAGE, NO_WISHES, 2), ((0, 2, ()),))
        self.assertEqual(place_of(INK, PAGE, ((), ((1, 1, 0, 1, 1),)), ((0, 2, ()),)), 1)

    def test_against_all_readings(self):
        many = 0
        for parts, region, _, wishes in cases(101, 150, limit=120):
            for told in (NO_WISHES, wishes):
                found = allowed_of(parts, region, told)
                with self.subTest(parts=parts, region=region, wishes=told):
                    self.assertEqual(how_many(parts, region, told), len(found))
                    self.assertEqual([reading_at(parts, region, told, place) for place in range(len(found))], found)
                    self.assertEqual([place_of(parts, region, told, one) for one in found], list(range(len(found))))
                for place in (-2, -1, len(found), len(found) + 1, 10 ** 30):
                    self.check_no_place(parts, region, told, place)
                many += len(found)
        self.assertGreater(many, 2000)

    def test_readings_that_are_not_allowed(self):
        refused = 0
        for parts, region, _, wishes in cases(102, 120, limit=60):
            found = allowed_of(parts, region, wishes)
            for reading in readings(parts, region):
                if reading not in found:
                    self.check_refused(parts, region, wishes, reading)
                    refused += 1
        self.assertGreater(refused, 300)
        self.check_refused(INK, PAGE, ((), (PAGE,)), (W, W))
        self.check_refused(INK, PAGE, (((0, 1, 0, 2, 1),), ()), (W, W))

    def test_readings_that_fill_nothing(self):
        for reading in ((), (W,), (W, W, W), ((0, 3, ()),), ((0, 0, ()), (0, 2, ())), ((2, 2, ()),), ((-1, 2, ()),),
                        ((0, -1, ()), (0, 3, ())), (W, (0, 1, ((0, 1, ()),))), ((1, 2, ()),)):
            self.check_refused(INK, PAGE, NO_WISHES, reading)
        self.check_refused(INK, (0, 0, 0, 2, 1), NO_WISHES, (W, W))
        self.check_refused(parse_grammar('shape s { "#." }'), (0, 0, 0, 2, 2), NO_WISHES, ())

    def test_leaves(self):
        parts = parse_grammar('plain w white cost 3; shape s cost 2 { "#." } across page = (w | s)*;')
        other = ((), ((0, 0, 0, 4, 4),))
        for region in ((0, 0, 0, 1, 1), (0, 5, 6, 24, 3), (1, 0, 0, 2, 1), (1, 9, 2, 2, 1)):
            for wishes in (NO_WISHES, other, ((region,), ())):
                self.assertEqual(how_many(parts, region, wishes), 1)
                self.assertEqual(place_of(parts, region, wishes, ()), 0)
                self.assertEqual(reading_at(parts, region, wishes, 0), ())
                for place in (-1, 1):
                    self.check_no_place(parts, region, wishes, place)
            # Forbidden, and ruled out by another fixed one.
            for wishes in (((), (region,)), (((2, *region[1:3], 1, 1),), ())):
                self.assertEqual(how_many(parts, region, wishes), 0)
                self.check_refused(parts, region, wishes, ())
                self.check_no_place(parts, region, wishes, 0)
        for region in ((1, 0, 0, 1, 1), (1, 0, 0, 2, 2), (1, 0, 0, 1, 2)):
            self.assertEqual(how_many(parts, region, NO_WISHES), 0)
            self.check_refused(parts, region, NO_WISHES, ())
            self.check_no_place(parts, region, NO_WISHES, 0)

    def test_readings_with_the_same_leaves_are_different(self):
        # Each piece by one of two moves, and a line of lines in several ways.
        parts = parse_grammar("plain w white; across p = (w 1 | w 1)*; down q = (p | p)*; across r = (q 3)*;")
        self.assertEqual(how_many(parts, (1, 0, 0, 3, 1), NO_WISHES), 8)
        self.assertEqual(how_many(parts, (2, 0, 0, 1, 2), NO_WISHES), 2 * 2 + 4 * 2 * 2)
        self.assertEqual(len(readings(parts, (2, 0, 0, 1, 2))), 20)
        self.assertEqual(how_many(parts, (3, 0, 0, 3, 1), NO_WISHES), 2 * 8)

    def test_no_reading(self):
        parts = parse_grammar("plain w white; across page = w 2;")
        self.assertEqual(how_many(parts, (1, 0, 0, 3, 1), NO_WISHES), 0)
        self.check_no_place(parts, (1, 0, 0, 3, 1), NO_WISHES, 0)
        self.assertEqual(cost_counts(parts, (1, 0, 0, 3, 1), ("...",), NO_WISHES, 4), [0] * 5)

    def test_images_mean_nothing_for_places(self):
        self.assertEqual(how_many(INK, (2, 7, 9, 2, 1), NO_WISHES), 5)
        self.assertEqual(reading_at(INK, (2, 7, 9, 2, 1), NO_WISHES, 2), ((0, 2, ()),))


class Large(Cases):
    def test_all_places(self):
        self.assertEqual(how_many(BITS, BIT_PAGE, NO_WISHES), 2 ** 256)
        chance = random.Random(103)
        places = [0, 1, 2 ** 53, 2 ** 53 + 1, 2 ** 54 + 3, 2 ** 128 - 1, 2 ** 255, 2 ** 256 - 2, 2 ** 256 - 1]
        for place in places + [chance.randrange(2 ** 256) for _ in range(6)]:
            self.assertEqual(reading_at(BITS, BIT_PAGE, NO_WISHES, place), bits_reading(place))
            self.assertEqual(place_of(BITS, BIT_PAGE, NO_WISHES, bits_reading(place)), place)
        for place in (-1, 2 ** 256, 2 ** 256 + 1, 2 ** 300):
            self.check_no_place(BITS, BIT_PAGE, NO_WISHES, place)

    def test_with_wishes(self):
        # One pixel is fixed, and another one must not be white.
        wishes = (((1, 0, 0, 1, 1),), ((0, 15, 15, 1, 1),))
        self.assertEqual(how_many(BITS, BIT_PAGE, wishes), 2 ** 254)
        for place in (0, 1, 2 ** 53 + 1, 2 ** 200 + 2 ** 54 + 1, 2 ** 254 - 1):
            reading = bits_reading(2 ** 255 + 2 * place + 1)
            self.assertEqual(reading_at(BITS, BIT_PAGE, wishes, place), reading)
            self.assertEqual(place_of(BITS, BIT_PAGE, wishes, reading), place)
        self.check_no_place(BITS, BIT_PAGE, wishes, 2 ** 254)
        self.check_refused(BITS, BIT_PAGE, wishes, bits_reading(1))
        self.check_refused(BITS, BIT_PAGE, wishes, bits_reading(2 ** 255))

    def test_numbers_by_costs(self):
        # Each pixel that is wrong costs 1.
        rows = ("#." * 8, ".#" * 8) * 8
        self.assertEqual(cost_counts(BITS, BIT_PAGE, rows, NO_WISHES, 100), [comb(256, one) for one in range(101)])
        self.assertEqual(cost_counts(BITS, BIT_PAGE, rows, NO_WISHES, 300), [comb(256, one) for one in range(301)])

    def test_sizes_of_several_kinds(self):
        # Rows of 1 to 3 and of 2: numbers of ways told by a sum, one row at a time.
        parts = parse_grammar("plain w white; across line = (w 1 to 3 | w 2)*; down page = (line 1 to 2)*;")
        ways = [1, 1, 3]
        while len(ways) < 17:
            ways.append(ways[-1] + 2 * ways[-2] + ways[-3])
        total = [1, ways[16]]
        while len(total) < 17:
            total.append((total[-1] + total[-2]) * ways[16])
        self.assertGreater(total[16], 2 ** 200)
        self.assertEqual(how_many(parts, (2, 0, 0, 16, 16), NO_WISHES), total[16])
        for place in (0, 1, total[16] // 3, total[16] // 2 + 12345, total[16] - 1):
            reading = reading_at(parts, (2, 0, 0, 16, 16), NO_WISHES, place)
            self.assertEqual(place_of(parts, (2, 0, 0, 16, 16), NO_WISHES, reading), place)
        self.check_no_place(parts, (2, 0, 0, 16, 16), NO_WISHES, total[16])


class Costs(unittest.TestCase):
    def check(self, parts, region, rows, wishes, most, expected):
        with self.subTest(region=region, rows=rows, wishes=wishes, most=most):
            self.assertEqual(cost_counts(parts, region, rows, wishes, most), expected)

    def test_example_of_the_document(self):
        self.check(INK, PAGE, ("#.",), NO_WISHES, 3, [0, 3, 0, 2])

    def test_against_all_readings(self):
        for parts, region, rows, wishes in cases(104, 150, limit=120):
            for told in (NO_WISHES, wishes):
                costs = [one for one, _ in ranked(parts, region, rows, told)]
                for most in (0, 1, 2, 5, 40):
                    self.check(parts, region, rows, told, most, [costs.count(one) for one in range(most + 1)])
                if costs and costs[-1] <= 100:
                    self.assertEqual(sum(cost_counts(parts, region, rows, told, 100)),
                                     how_many(parts, region, told))

    def test_the_greatest_cost_counts(self):
        self.check(INK, PAGE, ("#.",), NO_WISHES, 0, [0])
        self.check(INK, PAGE, ("#.",), NO_WISHES, 1, [0, 3])
        self.check(INK, PAGE, ("#.",), NO_WISHES, 2, [0, 3, 0])
        self.check(INK, PAGE, ("#.",), NO_WISHES, 6, [0, 3, 0, 2, 0, 0, 0])

    def test_leaves(self):
        parts = parse_grammar('plain w white cost 3; shape s cost 2 { "#." }')
        self.check(parts, (0, 0, 0, 2, 1), ("#.",), NO_WISHES, 5, [0, 0, 0, 0, 1, 0])
        self.check(parts, (0, 0, 0, 2, 1), ("#.",), NO_WISHES, 4, [0, 0, 0, 0, 1])
        self.check(parts, (0, 0, 0, 2, 1), ("#.",), NO_WISHES, 3, [0, 0, 0, 0])
        self.check(parts, (1, 0, 0, 2, 1), (".#",), NO_WISHES, 5, [0, 0, 0, 0, 1, 0])
        self.check(parts, (1, 3, 0, 2, 1), (".#",), NO_WISHES, 5, [0, 0, 0, 1, 0, 0])
        self.check(parts, (1, 0, 0, 2, 2), (".#", ".."), NO_WISHES, 5, [0] * 6)
        self.check(parts, (1, 0, 0, 2, 1), (".#",), ((), ((1, 0, 0, 2, 1),)), 5, [0] * 6)

    def test_costs_of_moves_and_of_great_leaves(self):
        parts = parse_grammar("plain w white; plain b black cost 1000; across page = (w 1 cost 30 | w 2 cost 69 | b 1)*;")
        self.check(parts, (2, 0, 0, 2, 1), ("#.",), NO_WISHES, 100,
                   [1 if one in (30 + 30 + 1, 69 + 1) else 0 for one in range(101)])
        self.check(parts, (2, 0, 0, 2, 1), ("#.",), NO_WISHES, 70, [1 if one in (61, 70) else 0 for one in range(71)])
        self.check(parts, (2, 0, 0, 2, 1), ("#.",), NO_WISHES, 69, [1 if one == 61 else 0 for one in range(70)])

    def test_costs_are_those_of_the_readings(self):
        found = [cost_of(INK, (2, 0, 0, 4, 1), one, ("#..#",)) for one in readings(INK, (2, 0, 0, 4, 1))]
        self.check(INK, (2, 0, 0, 4, 1), ("#..#",), NO_WISHES, 8, [found.count(one) for one in range(9)])


if __name__ == "__main__":
    unittest.main()
