import unittest

from surelyread.drawing import cost, draw, obeys
from surelyread.grammars import parse_grammar
from surelyread.readings import from_integers, price, regions
from tests.brute import cases, cost_of, readings, regions_of

INK = parse_grammar("plain w white; plain b black cost 1; across page = (w 1 to 3 | b 1)*;")

# 0 w, 1 b, 2 l (2 wide, 3 high), 3 line (across), 4 page (down), 5 sheet (across)
LETTERS = parse_grammar(
    'plain w white cost 1; plain b black cost 2; shape l "l" cost 20 { "#." "#." "##" }'
    " across line = (l cost 100 | w 1 to 2 cost 200 | b 1 cost 300)*;"
    " down page = (line 3 cost 700 | b 1 to 2)*; across sheet = (page 1 to 9 cost 5 | w 1)*;")

LINE = ((0, 2, ()), (1, 1, ()), (2, 1, ()))
OTHER = ((2, 1, ()), (1, 1, ()), (0, 2, ()))
PAGE = ((0, 3, LINE), (1, 1, ()), (0, 3, OTHER))
SHEET = ((1, 1, ()), (0, 4, PAGE), (0, 2, ((1, 2, ()), (0, 3, ((0, 2, ()),)), (1, 2, ()))))


class Draw(unittest.TestCase):
    def test_plain_parts(self):
        for x, y in ((0, 0), (3, 7), (40, 2)):
            self.assertEqual(draw(INK, (0, x, y, 3, 2), ()), ("...", "..."))
            self.assertEqual(draw(INK, (1, x, y, 1, 3), ()), ("#", "#", "#"))
            self.assertEqual(draw(INK, (1, x, y, 4, 1), ()), ("####",))
        self.assertEqual(draw(INK, (1, 0, 0, 30, 20), ()), ("#" * 30,) * 20)

    def test_shapes(self):
        for x, y in ((0, 0), (3, 7), (40, 2)):
            self.assertEqual(draw(LETTERS, (2, x, y, 2, 3), ()), ("#.", "#.", "##"))

    def test_across(self):
        for x, y in ((0, 0), (5, 1)):
            self.assertEqual(draw(INK, (2, x, y, 4, 2), ((0, 2, ()), (1, 1, ()), (0, 1, ()))), ("..#.",) * 2)
            self.assertEqual(draw(LETTERS, (3, x, y, 4, 3), LINE), ("#..#", "#..#", "##.#"))
            self.assertEqual(draw(LETTERS, (3, x, y, 4, 3), OTHER), ("#.#.", "#.#.", "#.##"))

    def test_down(self):
        parts = parse_grammar("plain w white; plain b black cost 1; down page = (w 1 to 3 | b 1)*;")
        for x, y in ((0, 0), (5, 1)):
            self.assertEqual(draw(parts, (2, x, y, 2, 4), ((0, 2, ()), (1, 1, ()), (0, 1, ()))),
                             ("..", "..", "##", ".."))

    def test_strips_in_strips(self):
        page = ("#..#", "#..#", "##.#", "####", "#.#.", "#.#.", "#.##")
        narrow = ("##", "##", "#.", "#.", "##", "##", "##")
        for x, y in ((0, 0), (2, 9)):
            self.assertEqual(draw(LETTERS, (4, x, y, 4, 7), PAGE), page)
            self.assertEqual(draw(LETTERS, (5, x, y, 7, 7), SHEET),
                             tuple("." + one + other for one, other in zip(page, narrow)))

    def test_across_directly_in_across_and_down_in_down(self):
        parts = parse_grammar("plain w white; plain b black; across a = (w 1 | b 1)*; across c = (a | b 1)*;"
                              " down d = (w 1 | b 1)*; down e = (d | b 1)*;")
        reading = from_integers(parts, (3, 0, 0, 4, 2), [0, 2, 1, 1, 0, 1, -1, 1, 1, 0, 1, 0, 1, -1, -1])
        self.assertEqual(draw(parts, (3, 0, 0, 4, 2), reading), ("#.#.", "#.#."))
        reading = from_integers(parts, (5, 0, 0, 2, 4), [0, 2, 1, 1, 0, 1, -1, 1, 1, 0, 1, 0, 1, -1, -1])
        self.assertEqual(draw(parts, (5, 0, 0, 2, 4), reading), ("##", "..", "##", ".."))

    def test_kinds(self):
        drawn = draw(LETTERS, (5, 0, 0, 7, 7), SHEET)
        self.assertIs(type(drawn), tuple)
        self.assertEqual({type(row) for row in drawn}, {str})
        self.assertIs(type(draw(LETTERS, (2, 0, 0, 2, 3), ())), tuple)


class Cost(unittest.TestCase):
    def check(self, parts, region, reading, rows, expected):
        with self.subTest(region=region, rows=rows):
            self.assertEqual(cost(parts, region, reading, rows), expected)

    def test_costs_of_leaves_and_moves(self):
        line = 100 + 20 + 200 + 1 + 300 + 2
        page = 700 + line + 2 + 700 + line
        narrow = 2 + 700 + 100 + 20 + 2
        sheet = 1 + 5 + page + 5 + narrow
        for region, reading, expected in (
                ((0, 0, 0, 2, 2), (), 1), ((2, 0, 0, 2, 3), (), 20), ((3, 0, 0, 4, 3), LINE, line),
                ((4, 0, 0, 4, 7), PAGE, page), ((5, 0, 0, 7, 7), SHEET, sheet)):
            self.assertEqual(price(LETTERS, region, reading), expected)
            self.check(LETTERS, region, reading, draw(LETTERS, region, reading), expected)

    def test_wrong_pixels(self):
        reading = ((0, 2, ()), (1, 1, ()))
        for rows, wrong in ((("..#",), 0), (("...",), 1), (("#.#",), 1), (("##.",), 3), ((".#.",), 2)):
            self.check(INK, (2, 0, 0, 3, 1), reading, rows, 1 + wrong)
        self.check(LETTERS, (2, 0, 0, 2, 3), (), ("#.", "#.", "##"), 20)
        self.check(LETTERS, (2, 0, 0, 2, 3), (), (".#", "#.", "#."), 23)
        self.check(LETTERS, (2, 0, 0, 2, 3), (), (".#", ".#", ".."), 26)
        self.check(LETTERS, (1, 0, 0, 2, 3), (), (".#", ".#", ".."), 6)

    def test_the_image_contains_the_region(self):
        rows = ("####", "#.##", "#..#", "####")
        self.check(INK, (0, 1, 1, 2, 2), (), rows, 1)
        self.check(INK, (0, 0, 0, 2, 2), (), rows, 3)
        self.check(INK, (1, 0, 1, 4, 1), (), rows, 2)
        self.check(INK, (1, 3, 0, 1, 4), (), rows, 1)
        self.check(INK, (2, 1, 2, 3, 1), ((0, 2, ()), (1, 1, ())), rows, 1)
        self.check(INK, (2, 1, 1, 3, 2), ((0, 1, ()), (1, 1, ()), (1, 1, ())), rows, 3)
        self.check(LETTERS, (2, 1, 1, 2, 3), (), rows, 20 + 3)
        self.check(LETTERS, (2, 2, 0, 2, 3), (), rows, 20 + 3)

    def test_the_image_ends_inside_of_the_region(self):
        rows = ("##", "##")
        self.check(INK, (0, 0, 0, 3, 3), (), rows, 4)
        self.check(INK, (1, 0, 0, 3, 3), (), rows, 6)
        self.check(INK, (0, 1, 1, 3, 3), (), rows, 1)
        self.check(INK, (1, 1, 1, 3, 3), (), rows, 9)
        self.check(INK, (1, 1, 0, 1, 5), (), rows, 4)
        self.check(INK, (1, 0, 1, 5, 1), (), rows, 4)
        self.check(INK, (2, 0, 1, 4, 2), ((0, 1, ()), (1, 1, ()), (0, 2, ())), rows, 3)
        self.check(LETTERS, (2, 1, 0, 2, 3), (), rows, 20 + 2)
        self.check(LETTERS, (2, 0, 1, 2, 3), (), rows, 20 + 4)

    def test_the_image_lies_elsewhere(self):
        rows = ("##", "##")
        for x, y in ((2, 0), (0, 2), (2, 2), (30, 1), (1, 30)):
            self.check(INK, (0, x, y, 3, 4), (), rows, 0)
            self.check(INK, (1, x, y, 3, 4), (), rows, 13)
            self.check(LETTERS, (2, x, y, 2, 3), (), rows, 24)
            self.check(LETTERS, (3, x, y, 4, 3), LINE, rows, 623 + 7)

    def test_many_readings(self):
        for parts, region, rows, _ in cases(11, 40):
            for reading in readings(parts, region)[:60]:
                self.check(parts, region, reading, rows, cost_of(parts, region, reading, rows))
                drawn = draw(parts, region, reading)
                self.assertEqual((len(drawn[0]), len(drawn)), region[3:])
                self.check(parts, region[:1] + (0, 0) + region[3:], reading, drawn,
                           price(parts, region, reading))


class Obeys(unittest.TestCase):
    REGION = (4, 1, 2, 4, 7)

    def check(self, fixed, forbidden, expected):
        with self.subTest(fixed=fixed, forbidden=forbidden):
            self.assertIs(obeys(LETTERS, self.REGION, PAGE, fixed, forbidden), expected)

    def test_no_wish(self):
        self.check((), (), True)

    def test_fixed_regions(self):
        self.check(((2, 1, 2, 2, 3),), (), True)
        self.check(((1, 1, 5, 4, 1), (0, 3, 2, 1, 3), (2, 3, 6, 2, 3)), (), True)
        self.check(((1, 1, 5, 4, 1), (0, 3, 2, 1, 3), (2, 3, 6, 2, 2)), (), False)
        self.check(((2, 1, 2, 2, 3), (2, 2, 2, 2, 3)), (), False)
        # Other part, column, row, width or height.
        for region in ((1, 3, 2, 1, 3), (0, 2, 2, 1, 3), (0, 3, 1, 1, 3), (0, 3, 2, 2, 3), (0, 3, 2, 1, 2)):
            self.check((region,), (), False)
        self.check(((0, 0, 0, 1, 1),), (), False)
        self.check(((0, 30, 30, 1, 1),), (), False)

    def test_forbidden_regions(self):
        self.check((), ((2, 1, 2, 2, 3),), False)
        self.check((), ((2, 2, 2, 2, 3),), True)
        self.check((), ((0, 0, 0, 1, 1), (2, 2, 2, 2, 3), (1, 2, 5, 4, 1)), True)
        self.check((), ((0, 0, 0, 1, 1), (2, 2, 2, 2, 3), (1, 1, 5, 4, 1)), False)

    def test_strips_and_the_region_itself(self):
        self.check((), (self.REGION,), False)
        self.check((), ((3, 1, 2, 4, 3),), False)
        self.check((), ((3, 1, 6, 4, 3),), False)
        self.check((), ((3, 1, 5, 4, 3),), True)
        self.check((), ((4, 0, 0, 4, 7),), True)

    def test_fixed_and_forbidden_regions(self):
        self.check(((2, 1, 2, 2, 3),), ((2, 1, 2, 2, 3),), False)
        self.check(((2, 1, 2, 2, 3),), ((0, 1, 2, 2, 3),), True)
        self.check(((2, 1, 3, 2, 3),), ((0, 1, 2, 2, 3),), False)

    def test_leaves(self):
        self.assertIs(obeys(INK, (0, 1, 1, 2, 2), (), ((0, 1, 1, 2, 2),), ()), True)
        self.assertIs(obeys(INK, (0, 1, 1, 2, 2), (), ((0, 1, 1, 2, 1),), ()), False)
        self.assertIs(obeys(INK, (0, 1, 1, 2, 2), (), (), ((0, 1, 1, 2, 2),)), False)

    def test_many_readings(self):
        for parts, region, _, (fixed, forbidden) in cases(12, 40):
            for reading in readings(parts, region)[:60]:
                found = regions_of(parts, region, reading)
                self.assertEqual(regions(parts, region, reading), found)
                expected = set(fixed) <= set(found) and not set(forbidden) & set(found)
                self.assertIs(obeys(parts, region, reading, fixed, forbidden), expected)


if __name__ == "__main__":
    unittest.main()
