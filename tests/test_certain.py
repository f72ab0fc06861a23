import unittest

from surelyread.best import best
from surelyread.certain import least_with, margin, sure
from surelyread.errors import TooMany
from surelyread.grammars import parse_grammar
from surelyread.needs import effort
from surelyread.readings import leaves
from surelyread.strips import is_strip
from tests.brute import (
    NO_WISHES, cases, count_of, cost_of, leaves_of, least_of, needed_of, ranked, regions_of)

INK = parse_grammar("plain w white; plain b black cost 1; across page = (w 1 to 3 | b 1)*;")
PAGE = (2, 0, 0, 3, 1)

# 0 gap, 1 l (2 wide, 3 high), 2 t (2 wide, 3 high), 3 line, 4 page
LETTERS = parse_grammar(
    'shape l "l" { "#." "#." "##" } shape t "t" { "##" ".#" ".#" } plain gap white;'
    ' across line = (l | t), (gap 1, (l | t))*; down page join "/" = line 3, (gap 1, line 3)*;')
LETTER_PAGE = (4, 0, 0, 5, 7)
LETTER_ROWS = ("##.##", "#...#", "##..#", ".....", "##.#.", ".###.", ".#.##")

MANY = parse_grammar(
    "plain w white; plain b black cost 1; across line = (w 1 to 3 cost 1 | b 1 to 3)*;"
    " down column = (line 1 to 3 cost 2)*; across page = (column 1 to 8)*;")
MANY_PAGE = (4, 0, 0, 7, 5)
MANY_ROWS = ("##..#.#", "#..##.#", "###....", "....##.", ".##.##.")


def margin_of(parts, region, rows, wishes, asked):
    """The margin, told by all readings."""
    pairs = ranked(parts, region, rows, wishes)
    without = [one for one, reading in pairs if asked not in regions_of(parts, region, reading)]
    if not pairs:
        return ()
    return (without[0] - pairs[0][0] if without else None,)


def least_with_of(parts, region, rows, wishes, asked):
    found = [one for one, reading in ranked(parts, region, rows, wishes)
             if asked in regions_of(parts, region, reading)]
    return found[0] if found else None


def sure_of(parts, region, rows, wishes, most):
    pairs = ranked(parts, region, rows, wishes)
    if not pairs:
        return None
    near = [leaves_of(parts, region, reading) for one, reading in pairs if one <= pairs[0][0] + most]
    return [leaf for leaf in near[0] if all(leaf in found for found in near)]


def some_regions(parts, region):
    """Needed regions, and some that no reading has."""
    _, x, y, width, height = region
    return sorted(needed_of(parts, region)) + [
        (0, x, y, width, height + 1), (0, x + width, y, 1, 1), (0, x, y + height, 2, 1), (1, 30, 40, 2, 2),
        (len(parts) - 1, x + 1, y, width, height), (0, 0, 0, 20, 20), (len(parts) - 1, 0, 0, 20, 20)]


class Margin(unittest.TestCase):
    def check(self, parts, region, rows, wishes, asked, expected):
        with self.subTest(region=region, rows=rows, wishes=wishes, asked=asked):
            found = margin(parts, region, rows, wishes, asked)
            self.assertEqual(found, expected)
            self.assertIs(type(found), tuple)

    def test_example_of_the_document(self):
        self.assertEqual(best(LETTERS, LETTER_PAGE, LETTER_ROWS, NO_WISHES)[0], 2)
        self.check(LETTERS, LETTER_PAGE, LETTER_ROWS, NO_WISHES, (0, 0, 0, 2, 3), (2,))
        self.check(LETTERS, LETTER_PAGE, LETTER_ROWS, NO_WISHES, (2, 0, 3, 5, 1), (None,))

    def test_no_allowed_reading(self):
        for asked in ((0, 0, 0, 1, 1), PAGE, (0, 9, 9, 1, 1)):
            self.check(INK, PAGE, ("#.#",), ((), (PAGE,)), asked, ())
            self.check(INK, PAGE, ("#.#",), (((0, 2, 0, 2, 1),), ()), asked, ())
        parts = parse_grammar("plain w white; across page = w 2;")
        self.check(parts, (1, 0, 0, 3, 1), ("...",), NO_WISHES, (0, 0, 0, 2, 1), ())

    def test_leaves_and_strips_of_the_best_reading(self):
        self.check(INK, PAGE, ("...",), NO_WISHES, (0, 0, 0, 1, 1), (0,))
        self.check(INK, PAGE, (".#.",), ((), ((0, 0, 0, 2, 1),)), (0, 1, 0, 1, 1), (0,))
        parts = parse_grammar("plain w white; plain b black cost 1; across page = (w 1 | b 1)*;")
        self.check(parts, PAGE, ("...",), NO_WISHES, (0, 1, 0, 1, 1), (2,))
        self.check(parts, PAGE, (".#.",), NO_WISHES, (0, 1, 0, 1, 1), (0,))
        self.check(LETTERS, LETTER_PAGE, LETTER_ROWS, NO_WISHES, (3, 0, 0, 5, 3), (None,))
        # Lines of one row cost 1 each; without the first one there is a line of two rows.
        parts = parse_grammar("plain w white; across line = w*; down page = (line 1 cost 1 | line 2 cost 5)*;")
        self.check(parts, (2, 0, 0, 4, 2), ("....", "...."), NO_WISHES, (1, 0, 0, 4, 1), (3,))

    def test_regions_that_the_best_reading_has_not(self):
        for asked in ((1, 0, 0, 1, 1), (0, 0, 0, 2, 1), (0, 1, 0, 2, 1), (0, 0, 0, 3, 1)):
            self.check(INK, PAGE, ("...",), NO_WISHES, asked, (0,))
        self.check(LETTERS, LETTER_PAGE, LETTER_ROWS, NO_WISHES, (1, 0, 0, 2, 3), (0,))

    def test_regions_that_all_readings_have(self):
        self.check(INK, PAGE, ("...",), NO_WISHES, PAGE, (None,))
        self.check(INK, (1, 0, 0, 3, 1), ("...",), NO_WISHES, (1, 0, 0, 3, 1), (None,))
        self.check(LETTERS, LETTER_PAGE, LETTER_ROWS, NO_WISHES, (2, 2, 0, 1, 3), (None,))
        self.check(LETTERS, (0, 2, 1, 2, 3), LETTER_ROWS, NO_WISHES, (0, 2, 1, 2, 3), (None,))

    def test_regions_that_lie_outside(self):
        for asked in ((0, 3, 0, 1, 1), (0, 0, 1, 3, 1), (2, 0, 0, 4, 1), (2, 1, 0, 3, 1), (0, 50, 60, 7, 8)):
            self.check(INK, PAGE, ("...",), NO_WISHES, asked, (0,))
        # A region and a leaf that lie outside of the image.
        self.check(INK, (2, 5, 5, 3, 1), ("...",), NO_WISHES, (0, 6, 5, 1, 1), (0,))
        self.check(INK, (2, 5, 5, 1, 1), ("...",), NO_WISHES, (0, 5, 5, 1, 1), (2,))

    def test_regions_that_are_fixed_or_forbidden(self):
        self.check(INK, PAGE, ("...",), (((1, 1, 0, 1, 1),), ()), (1, 1, 0, 1, 1), (None,))
        self.check(INK, PAGE, ("...",), (((1, 1, 0, 1, 1),), ()), (0, 0, 0, 1, 1), (2,))
        self.check(INK, PAGE, ("...",), (((1, 1, 0, 1, 1),), ()), (0, 1, 0, 1, 1), (0,))
        self.check(INK, PAGE, ("...",), ((), ((0, 0, 0, 1, 1),)), (0, 0, 0, 1, 1), (0,))
        self.check(INK, PAGE, ("...",), ((), ((0, 0, 0, 1, 1), (0, 0, 0, 3, 1))), (0, 0, 0, 2, 1), (2,))

    def test_against_all_readings(self):
        for parts, region, rows, wishes in cases(51, 60, limit=60):
            for asked in some_regions(parts, region):
                for told in (NO_WISHES, wishes, (wishes[0], wishes[1] + (asked,))):
                    expected = margin_of(parts, region, rows, told, asked)
                    self.check(parts, region, rows, told, asked, expected)

    def test_a_page_with_very_many_readings(self):
        least = least_of(MANY, MANY_PAGE, MANY_ROWS, NO_WISHES)
        found = leaves(MANY, MANY_PAGE, best(MANY, MANY_PAGE, MANY_ROWS, NO_WISHES)[1])
        for asked in found + [(2, 0, 0, 3, 3), (3, 0, 0, 7, 5), (3, 0, 0, 2, 5)]:
            without = least_of(MANY, MANY_PAGE, MANY_ROWS, ((), (asked,)))
            self.check(MANY, MANY_PAGE, MANY_ROWS, NO_WISHES, asked, (without - least,))


class LeastWith(unittest.TestCase):
    def check(self, parts, region, rows, wishes, asked, expected):
        with self.subTest(region=region, rows=rows, wishes=wishes, asked=asked):
            self.assertEqual(least_with(parts, region, rows, wishes, asked), expected)

    def test_the_region_itself(self):
        self.check(INK, PAGE, ("#.#",), NO_WISHES, PAGE, 2)
        self.check(INK, PAGE, ("#.#",), ((), (PAGE,)), PAGE, None)
        self.check(INK, (1, 0, 0, 3, 1), ("#.#",), NO_WISHES, (1, 0, 0, 3, 1), 2)
        self.check(INK, (0, 4, 4, 3, 1), ("#.#",), NO_WISHES, (0, 4, 4, 3, 1), 0)
        self.check(INK, (0, 4, 4, 3, 1), ("#.#",), NO_WISHES, (1, 4, 4, 3, 1), None)

    def test_plain_parts(self):
        for asked, expected in (((0, 0, 0, 1, 1), 2), ((0, 0, 0, 3, 1), 2), ((1, 1, 0, 1, 1), 4),
                                ((1, 0, 0, 1, 1), 2), ((1, 0, 0, 2, 1), None), ((0, 0, 0, 4, 1), None)):
            self.check(INK, PAGE, ("#.#",), NO_WISHES, asked, expected)

    def test_shapes_and_strips(self):
        for asked, expected in (((0, 0, 0, 2, 3), 2), ((1, 0, 0, 2, 3), 4), ((0, 3, 0, 2, 3), 6),
                                ((3, 0, 0, 5, 3), 2), ((3, 0, 4, 5, 3), 2), ((3, 0, 3, 5, 3), None),
                                ((2, 0, 3, 5, 1), 2), ((2, 2, 0, 1, 3), 2), ((0, 1, 0, 2, 3), None),
                                ((0, 0, 0, 2, 2), None), ((4, 0, 0, 5, 3), None)):
            self.check(LETTERS, LETTER_PAGE, LETTER_ROWS, NO_WISHES, asked, expected)

    def test_regions_outside(self):
        for asked in ((0, 3, 0, 1, 1), (0, 2, 0, 2, 1), (0, 0, 0, 1, 2), (0, 0, 1, 1, 1), (2, 0, 0, 9, 9)):
            self.check(INK, PAGE, ("#.#",), NO_WISHES, asked, None)
        self.check(INK, (2, 1, 0, 2, 1), ("#.#",), NO_WISHES, (0, 0, 0, 1, 1), None)

    def test_wishes(self):
        self.check(INK, PAGE, ("#.#",), (((1, 1, 0, 1, 1),), ()), (1, 1, 0, 1, 1), 4)
        self.check(INK, PAGE, ("#.#",), (((1, 1, 0, 1, 1),), ()), (0, 0, 0, 1, 1), 4)
        self.check(INK, PAGE, ("#.#",), (((1, 1, 0, 1, 1),), ()), (0, 1, 0, 1, 1), None)
        self.check(INK, PAGE, ("#.#",), ((), ((1, 1, 0, 1, 1),)), (1, 1, 0, 1, 1), None)
        self.check(INK, PAGE, ("#.#",), ((), ((0, 0, 0, 1, 1), (1, 0, 0, 1, 1))), (0, 2, 0, 1, 1), 2)
        self.check(INK, PAGE, ("#.#",), ((), (PAGE,)), (0, 2, 0, 1, 1), None)

    def test_against_all_readings(self):
        for parts, region, rows, wishes in cases(52, 60, limit=60):
            for asked in some_regions(parts, region):
                for told in (NO_WISHES, wishes, (wishes[0], wishes[1] + (asked,))):
                    expected = least_with_of(parts, region, rows, told, asked)
                    self.check(parts, region, rows, told, asked, expected)

    def test_a_page_with_very_many_readings(self):
        # With a leaf in it, a page is read as if this leaf were fixed.
        for asked in ((0, 2, 0, 2, 1), (1, 4, 3, 2, 2), (0, 0, 0, 1, 3), (1, 6, 0, 1, 2), (0, 3, 2, 1, 1)):
            expected = least_of(MANY, MANY_PAGE, MANY_ROWS, ((asked,), ()))
            self.check(MANY, MANY_PAGE, MANY_ROWS, NO_WISHES, asked, expected)


class Sure(unittest.TestCase):
    def check(self, parts, region, rows, wishes, most, expected):
        with self.subTest(region=region, rows=rows, wishes=wishes, most=most):
            self.assertEqual(sure(parts, region, rows, wishes, most), expected)

    def test_within_the_margin_of_a_leaf(self):
        parts = parse_grammar("plain w white; plain b black cost 1; across page = (w 1 | b 1)*;")
        found = [(0, x, 0, 1, 3) for x in (0, 1)] + [(1, 2, 0, 1, 3)]
        # Columns of 3, 2 and 0 white pixels: margins of 4, 2 and 2.
        rows = ("..#", "..#", ".##")
        for most, expected in ((0, found), (1, found), (2, found[:1]), (3, found[:1]), (4, []), (99, [])):
            self.check(parts, (2, 0, 0, 3, 3), rows, NO_WISHES, most, expected)

    def test_leaves_without_an_end(self):
        gaps = [(2, 2, 0, 1, 3), (2, 0, 3, 5, 1), (2, 2, 4, 1, 3)]
        found = leaves(LETTERS, LETTER_PAGE, best(LETTERS, LETTER_PAGE, LETTER_ROWS, NO_WISHES)[1])
        self.check(LETTERS, LETTER_PAGE, LETTER_ROWS, NO_WISHES, 0, found)
        self.check(LETTERS, LETTER_PAGE, LETTER_ROWS, NO_WISHES, 1, found)
        self.check(LETTERS, LETTER_PAGE, LETTER_ROWS, NO_WISHES, 2, [leaf for leaf in found if leaf != found[0]])
        for most in (6, 100, 10 ** 12):
            self.check(LETTERS, LETTER_PAGE, LETTER_ROWS, NO_WISHES, most, gaps)

    def test_the_best_readings_of_the_same_cost(self):
        self.check(INK, PAGE, ("...",), NO_WISHES, 0, [])
        self.check(INK, PAGE, ("...",), (((0, 0, 0, 2, 1),), ()), 0, [(0, 0, 0, 2, 1), (0, 2, 0, 1, 1)])
        self.check(INK, PAGE, ("...",), (((0, 0, 0, 2, 1),), ()), 1, [(0, 0, 0, 2, 1), (0, 2, 0, 1, 1)])
        self.check(INK, PAGE, ("...",), (((0, 0, 0, 2, 1),), ()), 2, [(0, 0, 0, 2, 1)])

    def test_a_leaf_as_the_region(self):
        self.check(INK, (1, 0, 0, 3, 1), ("...",), NO_WISHES, 1000, [(1, 0, 0, 3, 1)])

    def test_no_allowed_reading(self):
        self.check(INK, PAGE, ("...",), ((), (PAGE,)), 0, None)
        parts = parse_grammar("plain w white; across page = w 2;")
        self.check(parts, (1, 0, 0, 3, 1), ("...",), NO_WISHES, 5, None)

    def test_40_and_41_leaves(self):
        parts = parse_grammar("plain w white; across line = (w 1)*; down page = (line 1 | w 5)*;")
        rows = ("." * 8,) * 5
        found = [(0, x, y, 1, 1) for y in range(5) for x in range(8)]
        self.check(parts, (2, 0, 0, 8, 5), rows, (((0, 0, 0, 1, 1),), ()), 100, found)
        parts = parse_grammar("plain w white; down page = (w 1)*;")
        self.check(parts, (1, 0, 0, 1, 40), (".",), NO_WISHES, 0, [(0, 0, y, 1, 1) for y in range(40)])
        for height in (41, 42, 80):
            with self.assertRaises(TooMany):
                sure(parts, (1, 0, 0, 1, height), (".",), NO_WISHES, 0)

    def test_many_leaves_and_no_allowed_reading(self):
        parts = parse_grammar("plain w white; down page = (w 1)*;")
        self.check(parts, (1, 0, 0, 1, 60), (".",), ((), ((0, 0, 59, 1, 1),)), 0, None)

    def test_many_leaves_that_the_best_reading_has_not(self):
        parts = parse_grammar("plain w white; down page = (w 1 cost 1)* | (w 24, w 24);")
        for most, expected in ((0, [(0, 0, 0, 1, 24), (0, 0, 24, 1, 24)]), (48, [])):
            self.check(parts, (1, 0, 0, 1, 48), (".",), NO_WISHES, most, expected)

    def test_against_all_readings(self):
        for parts, region, rows, wishes in cases(53, 80, limit=80):
            for told in (NO_WISHES, wishes):
                for most in (0, 1, 2, 3, 5):
                    expected = sure_of(parts, region, rows, told, most)
                    self.check(parts, region, rows, told, most, expected)

    def test_just_the_margin_one_less_and_one_more(self):
        for parts, region, rows, wishes in cases(54, 60, limit=80):
            told = best(parts, region, rows, wishes)
            for leaf in leaves(parts, region, told[1]) if told else []:
                least = margin(parts, region, rows, wishes, leaf)[0]
                for most in (0, 100) if least is None else range(max(least - 1, 0), least + 2):
                    self.assertEqual(leaf in sure(parts, region, rows, wishes, most),
                                     least is None or most < least)

    def test_a_page_with_40_leaves_and_very_many_readings(self):
        parts = parse_grammar("plain w white; plain b black; across line = (w 1 | b 1)*;"
                              " down block = (line 1)*; across page = (block cost 1 | block)*;")
        rows = ("#..##.#.", "..##..#.", "########", "#.#.#.#.", "........")
        self.assertTrue(1000 < effort(parts, 8, 5) <= 5000)
        self.assertGreater(count_of(parts, (4, 0, 0, 8, 5)), 2 ** 40)
        found = sure(parts, (4, 0, 0, 8, 5), rows, NO_WISHES, 0)
        self.assertEqual(sorted(found), sorted(
            ({".": 0, "#": 1}[rows[y][x]], x, y, 1, 1) for y in range(5) for x in range(8)))
        self.check(parts, (4, 0, 0, 8, 5), rows, NO_WISHES, 1, [])


class Arguments(unittest.TestCase):
    def test_nothing_that_is_passed_is_changed(self):
        text = "plain w white; plain b black cost 1; across page = (w 1 to 3 | b 1)*;"
        parts, rows, wishes = parse_grammar(text), ("#.#",), (((1, 1, 0, 1, 1),), ((0, 0, 0, 1, 1),))
        margin(parts, PAGE, rows, wishes, (0, 0, 0, 1, 1))
        least_with(parts, PAGE, rows, wishes, (0, 0, 0, 1, 1))
        sure(parts, PAGE, rows, wishes, 1)
        self.assertEqual((parts, rows, wishes), (parse_grammar(text), ("#.#",), (
            ((1, 1, 0, 1, 1),), ((0, 0, 0, 1, 1),))))

    def test_costs_and_margins_fit_together(self):
        for parts, region, rows, wishes in cases(55, 30, limit=60):
            pairs = ranked(parts, region, rows, wishes)
            for asked in needed_of(parts, region) if pairs else ():
                using = least_with(parts, region, rows, wishes, asked)
                least = margin(parts, region, rows, wishes, asked)[0]
                self.assertTrue(using is not None or least == 0)
                if using is not None and using > pairs[0][0]:
                    self.assertEqual(least, 0)
                self.assertEqual(pairs[0][0], cost_of(parts, region, pairs[0][1], rows))

    def test_strips_are_asked_too(self):
        for parts, region, rows, _ in cases(56, 30):
            for asked in needed_of(parts, region):
                if is_strip(parts[asked[0]]):
                    self.assertEqual(least_with(parts, region, rows, NO_WISHES, asked),
                                     least_with_of(parts, region, rows, NO_WISHES, asked))


if __name__ == "__main__":
    unittest.main()
