import unittest

from surelyread.best import best
from surelyread.drawing import cost
from surelyread.grammars import parse_grammar
from surelyread.needs import effort
from surelyread.readings import comes_first, fills, leaves
from surelyread.several import first_readings
from tests.brute import NO_WISHES, cases, count_of, first_of, leaves_of, ranked

INK = parse_grammar("plain w white cost 1; plain b black cost 1; across page = (w | b 1)*;")
PAGE = (2, 0, 0, 3, 1)

# The same leaves in the same order, in lines of lines: moves 0 and 1 of the page.
ALIKE = parse_grammar("plain w white; plain b black cost 1; across line = (w 1 | b 1)*;"
                      " across page = (line cost 2 | line 1 to 2 cost 1)*;")


class FirstReadings(unittest.TestCase):
    def check(self, parts, region, rows, wishes, count, expected):
        with self.subTest(region=region, rows=rows, wishes=wishes, count=count):
            found = first_readings(parts, region, rows, wishes, count)
            self.assertEqual(found, expected)
            self.assertIs(type(found), list)

    def test_example_of_the_document(self):
        found = [(2, ((0, 2, ()), (1, 1, ()))), (2, ((0, 3, ()),)),
                 (3, ((0, 1, ()), (0, 1, ()), (1, 1, ())))]
        self.check(INK, PAGE, ("..#",), NO_WISHES, 3, found)
        self.check(INK, PAGE, ("..#",), NO_WISHES, 2, found[:2])
        self.check(INK, PAGE, ("..#",), NO_WISHES, 1, found[:1])

    def test_leaves(self):
        self.check(INK, (0, 0, 0, 3, 1), ("#.#",), NO_WISHES, 20, [(3, ())])
        self.check(INK, (1, 0, 0, 3, 1), ("#.#",), NO_WISHES, 1, [(2, ())])
        self.check(INK, (1, 0, 0, 3, 1), ("#.#",), ((), ((1, 0, 0, 3, 1),)), 5, [])
        self.check(INK, (1, 0, 0, 3, 1), ("#.#",), (((0, 1, 0, 1, 1),), ()), 5, [])
        parts = parse_grammar('shape s { "##" } across page = s*;')
        self.check(parts, (0, 0, 0, 2, 1), ("#.",), NO_WISHES, 3, [(1, ())])
        self.check(parts, (0, 0, 0, 1, 2), ("#.",), NO_WISHES, 3, [])

    def test_no_allowed_reading(self):
        for count in (1, 2, 20):
            self.check(INK, PAGE, ("..#",), ((), (PAGE,)), count, [])
            self.check(INK, PAGE, ("..#",), (((0, 2, 0, 2, 1),), ()), count, [])
            self.check(parse_grammar("plain w white; across page = w 2;"), (1, 0, 0, 3, 1), ("...",),
                       NO_WISHES, count, [])

    def test_more_than_there_are(self):
        found = first_of(INK, PAGE, (".##",), NO_WISHES, 100)
        self.assertEqual(len(found), 13)
        for count in (12, 13, 14, 20):
            self.check(INK, PAGE, (".##",), NO_WISHES, count, found[:count])

    def test_of_those_that_look_alike_only_the_first(self):
        self.check(ALIKE, (3, 0, 0, 1, 1), (".",), NO_WISHES, 20,
                   [(1, ((1, 1, ((0, 1, ()),)),)), (3, ((1, 1, ((1, 1, ()),)),))])
        region = (3, 0, 0, 2, 1)
        self.assertEqual(count_of(ALIKE, region), 24)
        self.check(ALIKE, region, (".#",), NO_WISHES, 20, [
            (2, ((1, 2, ((0, 1, ()), (0, 1, ()))),)), (2, ((1, 2, ((0, 1, ()), (1, 1, ()))),)),
            (4, ((1, 2, ((1, 1, ()), (0, 1, ()))),)), (4, ((1, 2, ((1, 1, ()), (1, 1, ()))),))])

    def test_a_cheaper_one_that_looks_alike(self):
        # Both leaves in one line cost 9 for the line; in two lines they cost 1 each.
        parts = parse_grammar("plain w white; across line = (w 1)*;"
                              " across page = (line 2 cost 9 | line 1 cost 1)*;")
        self.check(parts, (2, 0, 0, 2, 1), ("..",), NO_WISHES, 20,
                   [(2, ((1, 1, ((0, 1, ()),)), (1, 1, ((0, 1, ()),))))])
        self.check(parts, (2, 0, 0, 2, 1), ("..",), ((), ((1, 0, 0, 1, 1),)), 20,
                   [(9, ((0, 2, ((0, 1, ()), (0, 1, ()))),))])

    def test_the_first_one_of_those_that_cost_the_same_and_look_alike(self):
        parts = parse_grammar("plain w white; across line = (w 1 | w 1)*; across page = (line 1 | line 2)*;")
        self.check(parts, (2, 0, 0, 2, 1), ("..",), NO_WISHES, 20,
                   [(0, ((0, 1, ((0, 1, ()),)), (0, 1, ((0, 1, ()),))))])
        self.check(parts, (2, 0, 0, 2, 1), ("#.",), ((), ((1, 1, 0, 1, 1),)), 20,
                   [(1, ((1, 2, ((0, 1, ()), (0, 1, ()))),))])

    def test_the_same_leaves_in_another_order_do_not_look_alike(self):
        # A line of two rows ahead of one row, and the other way round, draw the same.
        parts = parse_grammar("plain w white; across line = w*; down page = (line 1 to 2)*;")
        found = first_readings(parts, (2, 0, 0, 1, 3), ("...",), NO_WISHES, 20)
        self.assertEqual([told for told, _ in found], [0, 0, 0])
        self.assertEqual([[size for _, size, _ in reading] for _, reading in found], [[1, 1, 1], [1, 2], [2, 1]])

    def test_the_same_cost_by_order(self):
        parts = parse_grammar("plain w white; plain b black; across page = (b 1 | w 1 to 2)*;")
        found = first_readings(parts, (2, 0, 0, 3, 1), ("...",), NO_WISHES, 20)
        self.assertEqual(found[:3], [(0, ((1, 1, ()), (1, 1, ()), (1, 1, ()))), (0, ((1, 1, ()), (1, 2, ()))),
                                     (0, ((1, 2, ()), (1, 1, ())))])
        for (one, first), (other, second) in zip(found, found[1:]):
            self.assertTrue(one < other or one == other and comes_first(first, second))

    def test_against_all_readings(self):
        alike = 0
        for parts, region, rows, wishes in cases(41, 120) + cases(42, 40, most=6, limit=400):
            for asked in (NO_WISHES, wishes):
                found = first_of(parts, region, rows, asked, 400)
                alike += len(found) < len(ranked(parts, region, rows, asked))
                for count in (1, 2, 3, 5, 20):
                    self.check(parts, region, rows, asked, count, found[:count])
        self.assertGreater(alike, 50)

    def test_a_page_with_very_many_readings(self):
        parts = parse_grammar(
            "plain w white; plain b black cost 1; across line = (w 1 to 3 cost 1 | b 1 to 3)*;"
            " down column = (line 1 to 3 cost 2)*; across page = (column 1 to 8)*;")
        rows = ("##..#.#", "#..##.#", "###....", "....##.", ".##.##.")
        page = (4, 0, 0, 7, 5)
        self.assertTrue(4000 < effort(parts, 7, 5) <= 5000)
        found = first_readings(parts, page, rows, NO_WISHES, 20)
        self.assertEqual(len(found), 20)
        self.assertEqual(found[0], best(parts, page, rows, NO_WISHES))
        self.assertEqual(found[:7], first_readings(parts, page, rows, NO_WISHES, 7))
        for told, reading in found:
            self.assertIs(fills(parts, page, reading), True)
            self.assertEqual(cost(parts, page, reading, rows), told)
        self.assertEqual(len({tuple(leaves(parts, page, reading)) for _, reading in found}), 20)
        for (one, first), (other, second) in zip(found, found[1:]):
            self.assertTrue(one < other or one == other and comes_first(first, second))

    def test_very_many_readings_that_look_alike(self):
        # Each reading has the same single pixels as leaves, but one of them is black.
        parts = parse_grammar(
            "plain w white; plain b black; across a = (w 1 | b 1)*; across c = (a cost 1)*;"
            " across d = (c cost 1)*; across page = (d cost 1)*;")
        page = (5, 0, 0, 9, 1)
        self.assertEqual(count_of(parts, page), 2 ** 9 * 4 ** 8)
        found = first_readings(parts, page, ("." * 9,), NO_WISHES, 20)
        self.assertEqual([told for told, _ in found], [3] + [4] * 9 + [5] * 10)
        looks = [leaves_of(parts, page, reading) for _, reading in found]
        self.assertEqual(len({tuple(look) for look in looks}), 20)
        # Of each look the one with one line of one line of one line is the cheapest.
        self.assertEqual({len(reading) for _, reading in found}, {1})

    def test_nothing_that_is_passed_is_changed(self):
        text = "plain w white cost 1; plain b black cost 1; across page = (w | b 1)*;"
        parts, rows, wishes = parse_grammar(text), ("..#",), (((1, 1, 0, 1, 1),), ((0, 0, 0, 2, 1),))
        first_readings(parts, PAGE, rows, wishes, 5)
        self.assertEqual((parts, rows, wishes), (parse_grammar(text), ("..#",), (
            ((1, 1, 0, 1, 1),), ((0, 0, 0, 2, 1),))))

    def test_what_is_returned_is_new(self):
        found = first_readings(INK, PAGE, ("..#",), NO_WISHES, 3)
        found.clear()
        self.assertEqual(len(first_readings(INK, PAGE, ("..#",), NO_WISHES, 3)), 3)


if __name__ == "__main__":
    unittest.main()
