import unittest

from surelyread.grammars import parse_grammar
from surelyread.needs import effort, look_count, needed, spots
from surelyread.strips import is_strip
from tests.brute import cases, effort_of, looks_of, needed_of

INK = parse_grammar("plain w white; plain b black cost 1; across page = (w 1 to 3 | b 1)*;")
PAPER = "plain w white; plain b black; "


class Spots(unittest.TestCase):
    def check(self, parts, region, expected, count):
        with self.subTest(region=region):
            found = spots(parts, region)
            self.assertEqual(found, expected)
            self.assertIs(type(found), list)
            self.assertEqual(look_count(parts, region), count)

    def test_example_of_the_document(self):
        self.assertEqual(effort(INK, 3, 1), 9)
        self.assertEqual(len(needed(INK, (2, 0, 0, 3, 1))), 10)
        self.check(INK, (2, 0, 0, 3, 1), [(0, 0), (0, 1), (0, 2), (0, 3)], 9)

    def test_across(self):
        self.check(INK, (2, 0, 0, 1, 1), [(0, 0), (0, 1)], 2)
        self.check(INK, (2, 0, 0, 2, 9), [(0, 0), (0, 1), (0, 2)], 5)
        self.check(INK, (2, 7, 9, 5, 1), [(0, 0), (0, 1), (0, 2), (0, 3), (0, 4), (0, 5)], 17)

    def test_down(self):
        parts = parse_grammar(PAPER + "down page = (w 1 to 3 | b 1)*;")
        self.check(parts, (2, 0, 0, 9, 2), [(0, 0), (0, 1), (0, 2)], 5)
        self.check(parts, (2, 4, 4, 1, 5), [(0, 0), (0, 1), (0, 2), (0, 3), (0, 4), (0, 5)], 17)

    def test_several_states(self):
        # States: 0 the beginning, 1 behind w, 2 behind b.
        parts = parse_grammar(PAPER + "across page = w 1 to 2, (b 2, w 1 to 2)*;")
        self.check(parts, (2, 0, 0, 6, 1),
                   [(0, 0), (1, 1), (1, 2), (2, 3), (1, 4), (2, 4), (1, 5), (1, 6), (2, 6)], 9)
        self.check(parts, (2, 0, 0, 1, 6), [(0, 0), (1, 1)], 1)

    def test_offsets_come_ahead_of_states(self):
        parts = parse_grammar(PAPER + "across page = (w 3 | b 1), w 1, b 1*;")
        found = spots(parts, (2, 0, 0, 4, 1))
        self.assertEqual(found, sorted(found, key=lambda spot: (spot[1], spot[0])))
        self.assertNotEqual(found, sorted(found))

    def test_sizes_beyond_the_extent(self):
        parts = parse_grammar(PAPER + "across page = w 3 to 9, b 2;")
        self.check(parts, (2, 0, 0, 2, 1), [(0, 0)], 0)
        self.check(parts, (2, 0, 0, 3, 1), [(0, 0), (1, 3)], 1)
        self.check(parts, (2, 0, 0, 4, 1), [(0, 0), (1, 3), (1, 4)], 2)
        self.check(parts, (2, 0, 0, 5, 1), [(0, 0), (1, 3), (1, 4), (1, 5), (2, 5)], 4)
        self.check(parts, (2, 0, 0, 30, 1),
                   [(0, 0), (1, 3), (1, 4), (1, 5), (2, 5), (1, 6), (2, 6), (1, 7), (2, 7), (1, 8),
                    (2, 8), (1, 9), (2, 9), (2, 10), (2, 11)], 14)

    def test_a_state_that_is_reached_in_several_ways(self):
        parts = parse_grammar(PAPER + "across page = (w 1 | b 1 | w 2), (w 1 | b 1)?;")
        # The first three places lead to one state, the last two to another one.
        self.check(parts, (2, 0, 0, 2, 1), [(0, 0), (1, 1), (1, 2), (2, 2)], 5)

    def test_a_piece_that_nothing_fills(self):
        parts = parse_grammar('shape s { "##" "##" } across line = s 1 to 3*; across page = line 1 to 2*;')
        self.check(parts, (1, 0, 0, 3, 1), [(0, 0), (0, 1), (0, 2), (0, 3)], 6)
        self.check(parts, (2, 0, 0, 3, 5), [(0, 0), (0, 1), (0, 2), (0, 3)], 5)
        self.assertEqual(needed(parts, (1, 0, 0, 2, 1)),
                         [(0, 0, 0, 1, 1), (0, 0, 0, 2, 1), (0, 1, 0, 1, 1), (1, 0, 0, 2, 1)])

    def test_an_end_that_is_not_reached(self):
        parts = parse_grammar(PAPER + "across page = w 2, b 2, w 9;")
        self.check(parts, (2, 0, 0, 5, 1), [(0, 0), (1, 2), (2, 4)], 2)
        self.assertEqual(needed(parts, (2, 0, 0, 5, 1)),
                         [(0, 0, 0, 2, 1), (1, 2, 0, 2, 1), (2, 0, 0, 5, 1)])

    def test_look_count_of_leaves(self):
        self.assertEqual(look_count(INK, (0, 0, 0, 5, 5)), 0)
        parts = parse_grammar('shape s { "##" } across page = s*;')
        self.assertEqual(look_count(parts, (0, 0, 0, 2, 1)), 0)
        self.assertEqual(look_count(parts, (0, 0, 0, 3, 1)), 0)

    def test_many_regions(self):
        for parts, region, _, _ in cases(21, 80):
            if is_strip(parts[region[0]]):
                reached, looks = looks_of(parts, region)
                self.check(parts, region, sorted(reached, key=lambda spot: (spot[1], spot[0])), len(looks))


class Needed(unittest.TestCase):
    def test_leaves(self):
        parts = parse_grammar('plain w white; shape s { "##" } across page = s*;')
        for region in ((0, 0, 0, 1, 1), (0, 3, 4, 5, 6), (1, 0, 0, 2, 1), (1, 5, 6, 7, 8)):
            self.assertEqual(needed(parts, region), [region])

    def test_a_strip(self):
        self.assertEqual(needed(INK, (2, 5, 7, 2, 3)),
                         [(0, 5, 7, 1, 3), (0, 5, 7, 2, 3), (0, 6, 7, 1, 3), (1, 5, 7, 1, 3),
                          (1, 6, 7, 1, 3), (2, 5, 7, 2, 3)])

    def test_strips_in_strips(self):
        parts = parse_grammar(PAPER + "across line = w 1, b 1; down page = (line 1 | w 1)*;")
        self.assertEqual(needed(parts, (3, 1, 2, 3, 2)),
                         [(0, 1, 2, 1, 1), (0, 1, 2, 3, 1), (0, 1, 3, 1, 1), (0, 1, 3, 3, 1),
                          (1, 2, 2, 1, 1), (1, 2, 3, 1, 1), (2, 1, 2, 3, 1), (2, 1, 3, 3, 1),
                          (3, 1, 2, 3, 2)])
        # A region that several looks put counts once, also for the effort.
        parts = parse_grammar(PAPER + "across line = (w 1)*; down page = (line 1 | line 1 cost 3)*;")
        self.assertEqual(needed(parts, (3, 0, 0, 1, 2)),
                         [(0, 0, 0, 1, 1), (0, 0, 1, 1, 1), (2, 0, 0, 1, 1), (2, 0, 1, 1, 1), (3, 0, 0, 1, 2)])
        self.assertEqual(effort(parts, 1, 2), 4 + 1 + 1)

    def test_a_part_that_is_not_the_last_one(self):
        parts = parse_grammar(PAPER + "across line = w 1, b 1; down page = (line 1 | w 1)*;")
        self.assertEqual(needed(parts, (2, 0, 0, 2, 4)), [(0, 0, 0, 1, 4), (1, 1, 0, 1, 4), (2, 0, 0, 2, 4)])

    def test_many_regions(self):
        for parts, region, _, _ in cases(22, 80):
            found = needed(parts, region)
            self.assertIs(type(found), list)
            self.assertEqual(found, sorted(needed_of(parts, region)))


class Effort(unittest.TestCase):
    def test_a_leaf_as_the_page(self):
        self.assertEqual(effort(parse_grammar("plain w white;"), 16, 16), 0)
        self.assertEqual(effort(parse_grammar('shape s { "#" }'), 2, 1), 0)

    def test_the_sum_of_the_looks(self):
        for parts, _, rows, _ in cases(23, 60):
            width, height = len(rows[0]), len(rows)
            page = (len(parts) - 1, 0, 0, width, height)
            found = effort(parts, width, height)
            self.assertEqual(found, sum(look_count(parts, region) for region in needed(parts, page)))
            self.assertEqual(found, effort_of(parts, width, height))

    def test_width_and_height(self):
        parts = parse_grammar(PAPER + "across line = (w 1 | b 1)*; down page = (line)*;")
        # 15 looks of the page, and 15 needed lines with 2 looks for each column.
        self.assertEqual(effort(parts, 3, 5), 15 + 15 * 6)
        self.assertEqual(effort(parts, 5, 3), 6 + 6 * 10)

    def test_a_page_with_very_many_looks(self):
        parts = parse_grammar(PAPER + "across a = (w | b)*; down c = (a)*; across d = (c)*; down e = (d)*;")
        # Rectangles of the page: 136 for each direction; looks of an extent n: n * (n + 1) / 2.
        looks = sum((17 - size) * size * (size + 1) // 2 for size in range(1, 17))
        self.assertEqual(effort(parts, 16, 16), 136 + 136 * 136 + looks * 136 + 2 * looks * 136)


if __name__ == "__main__":
    unittest.main()
