import unittest

from surelyread.best import allowed, best
from surelyread.drawing import cost, obeys
from surelyread.grammars import parse_grammar
from surelyread.needs import effort
from surelyread.readings import fills
from tests.brute import NO_WISHES, cases, count_of, is_allowed, least_of, needed_of, ranked

INK = parse_grammar("plain w white; plain b black cost 1; across page = (w 1 to 3 | b 1)*;")
PAGE = (2, 0, 0, 3, 1)

# 0 gap, 1 l (2 wide, 3 high), 2 t (2 wide, 3 high), 3 line, 4 page
LETTERS = parse_grammar(
    'shape l "l" { "#." "#." "##" } shape t "t" { "##" ".#" ".#" } plain gap white;'
    ' across line = (l | t), (gap 1, (l | t))*; down page join "/" = line 3, (gap 1, line 3)*;')
LETTER_ROWS = ("##.##", "#...#", "##..#", ".....", "##.#.", ".###.", ".#.##")

# Ways to tell the same line, in lines of lines: far more readings than can be listed.
MANY = parse_grammar(
    "plain w white; plain b black cost 1; across line = (w 1 to 3 cost 1 | b 1 to 3)*;"
    " down column = (line 1 to 3 cost 2)*; across page = (column 1 to 8)*;")


class Allowed(unittest.TestCase):
    def check(self, region, fixed, forbidden, expected):
        with self.subTest(region=region, fixed=fixed, forbidden=forbidden):
            self.assertIs(allowed(LETTERS, region, (fixed, forbidden)), expected)

    def test_forbidden_regions(self):
        self.check((0, 1, 1, 2, 3), (), (), True)
        self.check((0, 1, 1, 2, 3), (), ((0, 1, 1, 2, 3),), False)
        self.check((0, 1, 1, 2, 3), (), ((2, 0, 0, 9, 9), (0, 1, 1, 2, 3)), False)
        for region in ((1, 1, 1, 2, 3), (0, 2, 1, 2, 3), (0, 1, 2, 2, 3), (0, 1, 1, 1, 3), (0, 1, 1, 2, 2)):
            self.check((0, 1, 1, 2, 3), (), (region,), True)
        self.check((2, 4, 4, 1, 1), (), ((2, 4, 4, 1, 1),), False)
        self.check((3, 0, 0, 5, 3), (), ((3, 0, 0, 5, 3),), False)
        self.check((3, 0, 0, 5, 3), (), ((4, 0, 0, 5, 3),), True)

    def test_a_fixed_region_itself(self):
        self.check((2, 1, 1, 2, 3), ((2, 1, 1, 2, 3),), (), True)
        self.check((0, 1, 1, 2, 3), ((0, 1, 1, 2, 3),), (), True)
        self.check((0, 1, 1, 2, 3), ((0, 1, 1, 2, 3), (0, 5, 5, 2, 3)), (), True)
        self.check((0, 1, 1, 2, 3), ((0, 1, 1, 2, 3), (2, 2, 3, 5, 5)), (), False)
        self.check((0, 1, 1, 2, 3), ((0, 1, 1, 2, 3),), ((0, 1, 1, 2, 3),), False)

    def test_a_pixel_in_common_with_a_fixed_region(self):
        fixed = ((2, 4, 5, 3, 2),)
        for region in ((2, 4, 5, 3, 3), (2, 4, 5, 2, 2), (0, 4, 5, 3, 2), (1, 5, 6, 2, 3), (2, 0, 0, 16, 16),
                       (2, 6, 6, 9, 9), (2, 0, 0, 5, 6), (2, 6, 0, 1, 6), (2, 0, 6, 5, 1), (2, 5, 0, 1, 16),
                       (2, 0, 5, 16, 1), (2, 5, 5, 1, 1)):
            self.check(region, fixed, (), False)
            self.check(region, ((0, 0, 16, 2, 3),) + fixed, (), False)

    def test_no_pixel_in_common(self):
        fixed = ((2, 4, 5, 3, 2),)
        for region in ((2, 0, 5, 4, 2), (2, 7, 5, 1, 2), (2, 4, 0, 3, 5), (2, 4, 7, 3, 9), (0, 2, 5, 2, 3),
                       (1, 7, 4, 2, 3), (0, 4, 2, 2, 3), (1, 5, 7, 2, 3), (2, 0, 0, 4, 5), (2, 7, 7, 1, 1),
                       (2, 7, 0, 1, 5), (2, 0, 7, 4, 1)):
            self.check(region, fixed, (), True)

    def test_strips_over_fixed_regions(self):
        for region in ((3, 0, 0, 5, 3), (3, 1, 1, 2, 3), (4, 0, 0, 16, 16), (4, 2, 2, 1, 1)):
            self.check(region, ((0, 1, 1, 2, 3), (2, 2, 2, 1, 1)), (), True)

    def test_many_regions(self):
        for parts, region, _, wishes in cases(31, 60):
            for one in needed_of(parts, region):
                self.assertIs(allowed(parts, one, wishes), is_allowed(parts, one, wishes))


class Best(unittest.TestCase):
    def check(self, parts, region, rows, wishes, expected):
        with self.subTest(region=region, rows=rows, wishes=wishes):
            self.assertEqual(best(parts, region, rows, wishes), expected)

    def test_example_of_the_document(self):
        self.check(INK, PAGE, ("#.#",), NO_WISHES, (2, ((0, 1, ()), (0, 1, ()), (0, 1, ()))))
        self.check(INK, PAGE, ("#.#",), ((), (PAGE,)), None)

    def test_letters(self):
        reading = ((0, 3, ((0, 2, ()), (2, 1, ()), (4, 2, ()))), (1, 1, ()),
                   (2, 3, ((1, 2, ()), (2, 1, ()), (3, 2, ()))))
        self.check(LETTERS, (4, 0, 0, 5, 7), LETTER_ROWS, NO_WISHES, (2, reading))

    def test_plain_parts(self):
        rows = ("##.", "...")
        self.check(INK, (0, 0, 0, 3, 2), rows, NO_WISHES, (2, ()))
        self.check(INK, (1, 0, 0, 3, 2), rows, NO_WISHES, (5, ()))
        self.check(INK, (1, 1, 0, 2, 1), rows, NO_WISHES, (2, ()))
        self.check(INK, (1, 1, 0, 2, 1), rows, (((1, 1, 0, 2, 1),), ()), (2, ()))
        self.check(INK, (1, 1, 0, 2, 1), rows, (((0, 1, 0, 2, 1),), ()), None)
        self.check(INK, (1, 1, 0, 2, 1), rows, ((), ((1, 1, 0, 2, 1),)), None)

    def test_shapes(self):
        rows = ("##.", "##.", "###")
        self.check(LETTERS, (0, 0, 0, 2, 3), rows, NO_WISHES, (2, ()))
        self.check(LETTERS, (0, 1, 0, 2, 3), rows, NO_WISHES, (0, ()))
        self.check(LETTERS, (0, 1, 0, 2, 2), rows, NO_WISHES, None)
        self.check(LETTERS, (0, 0, 0, 3, 3), rows, NO_WISHES, None)
        self.check(LETTERS, (0, 0, 0, 3, 2), rows, NO_WISHES, None)
        self.check(LETTERS, (0, 1, 0, 2, 3), rows, ((), ((0, 1, 0, 2, 3),)), None)

    def test_the_costs_of_parts_and_moves(self):
        parts = parse_grammar("plain w white cost 3; plain b black cost 1; across page = (w | b 1 cost 2)*;")
        self.check(parts, PAGE, ("...",), NO_WISHES, (3, ((0, 3, ()),)))
        self.check(parts, PAGE, ("..#",), NO_WISHES, (4, ((0, 3, ()),)))
        self.check(parts, (2, 0, 0, 3, 2), ("..#", "..#"), NO_WISHES, (5, ((0, 3, ()),)))
        self.check(parts, (2, 0, 0, 3, 4), ("..#",) * 4, NO_WISHES, (6, ((0, 2, ()), (1, 1, ()))))

    def test_of_the_same_cost_the_first_one(self):
        parts = parse_grammar("plain w white; plain b black; across page = (w cost 1 | b)*;")
        self.check(parts, (2, 0, 0, 4, 1), ("..##",), NO_WISHES, (1, ((0, 2, ()), (1, 1, ()), (1, 1, ()))))
        self.check(parts, (2, 0, 0, 2, 1), ("##",), NO_WISHES, (0, ((1, 1, ()), (1, 1, ()))))
        # A smaller move decides ahead of a smaller size.
        parts = parse_grammar("plain w white; across page = w 3 | (w 1, w 2) | w 2 , w 1;")
        self.check(parts, (1, 0, 0, 3, 1), ("###",), NO_WISHES, (3, ((0, 3, ()),)))
        self.check(parts, (1, 0, 0, 3, 1), ("###",), ((), ((0, 0, 0, 3, 1),)), (3, ((1, 1, ()), (3, 2, ()))))

    def test_of_the_same_cost_the_first_one_in_an_inner_strip(self):
        parts = parse_grammar("plain w white; across line = (w 2 to 3 | w 1)*; down page = (line 1)*;")
        self.check(parts, (2, 0, 0, 3, 2), ("...", "#.."), NO_WISHES,
                   (1, ((0, 1, ((0, 2, ()), (1, 1, ()))), (0, 1, ((0, 2, ()), (1, 1, ()))))))

    def test_no_reading(self):
        parts = parse_grammar("plain w white; across page = w 2, (w 2)*;")
        for width in (1, 3, 5):
            self.check(parts, (1, 0, 0, width, 1), ("#####",), NO_WISHES, None)
        self.check(parts, (1, 0, 0, 4, 1), ("#####",), NO_WISHES, (4, ((0, 2, ()), (1, 2, ()))))

    def test_regions_beyond_the_image(self):
        rows = ("##", "##")
        self.check(INK, (2, 0, 0, 4, 1), rows, NO_WISHES, (2, ((0, 1, ()), (0, 1, ()), (0, 1, ()), (0, 1, ()))))
        self.check(INK, (2, 0, 0, 4, 3), rows, NO_WISHES, (4, ((0, 1, ()), (0, 1, ()), (0, 1, ()), (0, 1, ()))))
        self.check(INK, (2, 1, 0, 2, 2), rows, NO_WISHES, (1, ((1, 1, ()), (0, 1, ()))))
        self.check(INK, (2, 1, 1, 2, 2), rows, NO_WISHES, (1, ((0, 1, ()), (0, 1, ()))))
        for x, y in ((2, 0), (0, 2), (5, 5), (100, 1)):
            self.check(INK, (2, x, y, 2, 2), rows, NO_WISHES, (0, ((0, 1, ()), (0, 1, ()))))

    def test_regions_that_do_not_begin_at_0(self):
        rows = ("..........",) + tuple("..." + row + ".." for row in LETTER_ROWS)
        told = best(LETTERS, (4, 3, 1, 5, 7), rows, NO_WISHES)
        self.assertEqual(told, best(LETTERS, (4, 0, 0, 5, 7), LETTER_ROWS, NO_WISHES))
        self.check(LETTERS, (3, 4, 1, 2, 3), rows, NO_WISHES, (2, ((0, 2, ()),)))

    def test_fixed_regions_inside(self):
        self.check(INK, PAGE, ("...",), (((1, 1, 0, 1, 1),), ()), (2, ((0, 1, ()), (1, 1, ()), (0, 1, ()))))
        self.check(INK, PAGE, ("###",), (((0, 0, 0, 3, 1),), ()), (3, ((0, 3, ()),)))
        self.check(INK, PAGE, ("...",), (((1, 1, 0, 2, 1),), ()), None)
        self.check(INK, PAGE, ("...",), (((1, 1, 0, 1, 1), (0, 1, 0, 1, 1)), ()), None)
        # A shape that has not the size of its pattern is in no reading.
        self.check(LETTERS, (4, 0, 0, 5, 7), LETTER_ROWS, (((0, 0, 0, 2, 2),), ()), None)

    def test_fixed_regions_partly_outside(self):
        self.check(INK, PAGE, ("...",), (((0, 2, 0, 2, 1),), ()), None)
        self.check(INK, PAGE, ("...",), (((1, 2, 0, 1, 2),), ()), None)
        self.check(INK, (2, 1, 0, 2, 1), ("...",), (((0, 0, 0, 3, 1),), ()), None)

    def test_fixed_regions_outside(self):
        for fixed in ((0, 3, 0, 2, 1), (1, 0, 1, 3, 1), (1, 9, 9, 1, 1)):
            self.check(INK, PAGE, ("...",), ((fixed,), ()), (0, ((0, 1, ()),) * 3))
        self.check(INK, (2, 1, 0, 2, 1), ("...",), (((1, 0, 0, 1, 1),), ()), (0, ((0, 1, ()),) * 2))

    def test_forbidden_regions(self):
        self.check(INK, PAGE, ("...",), ((), ((0, 0, 0, 1, 1),)), (0, ((0, 2, ()), (0, 1, ()))))
        self.check(INK, PAGE, ("...",), ((), ((0, 0, 0, 1, 1), (0, 0, 0, 2, 1))), (0, ((0, 3, ()),)))
        self.check(INK, PAGE, ("...",), ((), ((0, 0, 0, 1, 1), (0, 0, 0, 2, 1), (0, 0, 0, 3, 1))),
                   (2, ((1, 1, ()), (0, 1, ()), (0, 1, ()))))
        self.check(LETTERS, (4, 0, 0, 5, 7), LETTER_ROWS, ((), ((3, 0, 0, 5, 3),)), None)

    def test_40_wishes(self):
        # Black at even columns and white at odd ones.
        wished = tuple(((at + 1) % 2, at, 0, 1, 1) for at in range(40))
        region = (2, 0, 0, 40, 1)
        reading = tuple(((at + 1) % 2, 1, ()) for at in range(40))
        self.check(INK, region, (".",), (wished, ()), (40, reading))
        reading = ((0, 1, ()),) + ((0, 2, ()),) * 18 + ((0, 3, ()),)
        self.check(INK, region, (".",), ((), wished), (0, reading))
        reading = reading[:-1] + ((0, 2, ()), (1, 1, ()))
        self.check(INK, region, (".",), (((1, 39, 0, 1, 1),), wished[:39]), (2, reading))

    def test_against_all_readings(self):
        for parts, region, rows, wishes in cases(32, 150) + cases(33, 40, most=6):
            for asked in (NO_WISHES, wishes):
                found = ranked(parts, region, rows, asked)
                self.check(parts, region, rows, asked, found[0] if found else None)
                if found:
                    self.check(parts, region, rows, (asked[0], asked[1] + (region,)), None)

    def test_what_is_told_fits_together(self):
        for parts, region, rows, wishes in cases(34, 60, most=9, limit=10 ** 9):
            told = best(parts, region, rows, wishes)
            if told is not None:
                self.assertIs(fills(parts, region, told[1]), True)
                self.assertEqual(cost(parts, region, told[1], rows), told[0])
                inside = [one for one in wishes[0]
                          if region[1] <= one[1] and one[1] + one[3] <= region[1] + region[3]
                          and region[2] <= one[2] and one[2] + one[4] <= region[2] + region[4]]
                self.assertIs(obeys(parts, region, told[1], tuple(inside), wishes[1]), True)

    def test_a_page_with_very_many_readings(self):
        rows = ("##..#.#", "#..##.#", "###....", "....##.", ".##.##.")
        page = (4, 0, 0, 7, 5)
        self.assertTrue(4000 < effort(MANY, 7, 5) <= 5000)
        self.assertGreater(count_of(MANY, page), 10 ** 10)
        told, reading = best(MANY, page, rows, NO_WISHES)
        self.assertIs(fills(MANY, page, reading), True)
        self.assertEqual(cost(MANY, page, reading, rows), told)
        self.assertEqual(least_of(MANY, page, rows, NO_WISHES), told)

    def test_nothing_that_is_passed_is_changed(self):
        text = "plain w white; plain b black cost 1; across page = (w 1 to 3 | b 1)*;"
        parts, rows, wishes = parse_grammar(text), ("#.#",), (((1, 1, 0, 1, 1),), ((0, 0, 0, 1, 1),))
        best(parts, PAGE, rows, wishes)
        allowed(parts, PAGE, wishes)
        self.assertEqual((parts, rows, wishes), (parse_grammar(text), ("#.#",), (
            ((1, 1, 0, 1, 1),), ((0, 0, 0, 1, 1),))))

    def test_the_same_answer_again(self):
        told = [best(LETTERS, (4, 0, 0, 5, 7), LETTER_ROWS, NO_WISHES) for _ in range(2)]
        best(LETTERS, (4, 0, 0, 5, 7), LETTER_ROWS, (((0, 0, 0, 2, 3),), ((0, 3, 0, 2, 3),)))
        told.append(best(LETTERS, (4, 0, 0, 5, 7), LETTER_ROWS, NO_WISHES))
        self.assertEqual(told, [told[0]] * 3)


if __name__ == "__main__":
    unittest.main()
