import unittest

from surelyread.best import best
from surelyread.drawing import cost
from surelyread.grammars import parse_grammar
from surelyread.learned import distance, train
from surelyread.readings import regions
from tests.brute import NO_WISHES, Maker, black, cases, cost_of, regions_of

# 0 w, 1 s (2 wide, 2 high), 2 t (1 wide, 2 high), 3 page
PAIRS = parse_grammar('plain w white cost 5; shape s "S" cost 7 { "##" "##" } shape t { "." "#" }'
                      " across page = (s cost 1 | t | w 1)*;")
S = (0, 2, ())
T = (1, 1, ())
W = (2, 1, ())


def patterns(parts):
    return [part[4] for part in parts if part[0] == "shape"]


class Train(unittest.TestCase):
    def check(self, samples, expected, counts, parts=PAIRS):
        with self.subTest(samples=samples):
            learned, before, after, told = train(parts, samples)
            self.assertEqual(patterns(learned), expected)
            self.assertEqual(told, counts)
            self.assertIs(type(learned), tuple)
            self.check_the_rest(parts, samples, learned, before, after)

    def check_the_rest(self, parts, samples, learned, before, after):
        for part, other in zip(parts, learned):
            self.assertEqual(part[:4], other[:4])
            if part[0] != "shape":
                self.assertEqual(part, other)
        page = len(parts) - 1
        for told, used in ((before, parts), (after, learned)):
            self.assertEqual(told, sum(
                cost_of(used, (page, 0, 0, len(rows[0]), len(rows)), reading, rows)
                for rows, reading in samples))
        self.assertLessEqual(after, before)

    def test_one_sample(self):
        self.check(((("#.", ".#"), (S,)),), [("#.", ".#"), (".", "#")], ((1, 1), (2, 0)))
        self.assertEqual(train(PAIRS, ((("#.", ".#"), (S,)),))[1:], (10, 8, ((1, 1), (2, 0))))

    def test_several_samples(self):
        samples = ((("##", "#."), (S,)), (("#.", "##"), (S,)), (("##", ".."), (S,)))
        self.check(samples, [("##", "#."), (".", "#")], ((1, 3), (2, 0)))
        self.assertEqual(train(PAIRS, samples)[1:], (3 * 8 + 1 + 1 + 2, 3 * 8 + 0 + 2 + 1, ((1, 3), (2, 0))))

    def test_a_shape_several_times_in_one_reading(self):
        rows = ("#.#.#.#", "..##.##")
        self.check(((rows, (S, S, S, W)),), [("#.", ".#"), (".", "#")], ((1, 3), (2, 0)))
        self.check(((rows, (S, T, S, T, W)),), [("..", ".."), (".", "#")], ((1, 2), (2, 2)))

    def test_black_in_just_half_of_the_samples(self):
        two = ((("##", ".."), (S,)), (("#.", "#."), (S,)))
        self.check(two, [("#.", ".."), (".", "#")], ((1, 2), (2, 0)))
        four = two + ((("##", "##"), (S,)), (("..", ".#"), (S,)))
        self.check(four, [("#.", ".."), (".", "#")], ((1, 4), (2, 0)))
        self.check(four + ((("##", "##"), (S,)),), [("##", "##"), (".", "#")], ((1, 5), (2, 0)))

    def test_shapes_without_samples(self):
        self.check(((("#", "."), (T,)),), [("##", "##"), ("#", ".")], ((1, 0), (2, 1)))
        self.check(((("#", "."), (W,)),), [("##", "##"), (".", "#")], ((1, 0), (2, 0)))

    def test_no_samples(self):
        self.check((), [("##", "##"), (".", "#")], ((1, 0), (2, 0)))
        self.assertEqual(train(PAIRS, ()), (PAIRS, 0, 0, ((1, 0), (2, 0))))

    def test_a_grammar_without_shapes(self):
        parts = parse_grammar("plain w white; across page = (w 1)*;")
        samples = ((("#.",), ((0, 1, ()), (0, 1, ()))),)
        self.assertEqual(train(parts, samples), (parts, 1, 1, ()))
        self.assertEqual(train(parts, ()), (parts, 0, 0, ()))

    def test_a_shape_as_the_page(self):
        parts = parse_grammar('plain w white; shape s cost 2 { "#.." }')
        samples = (((".##",), ()), (("..#",), ()), (("#.#",), ()))
        learned = (parts[0], ("shape", "s", "", 2, ("..#",)))
        self.assertEqual(train(parts, samples), (learned, 5 + 4 + 3, 3 + 2 + 3, ((1, 3),)))
        parts = parse_grammar("plain w black;")
        self.assertEqual(train(parts, (((".##", "..."), ()),)), (parts, 4, 4, ()))

    def test_images_of_different_sizes(self):
        samples = ((("#.", ".#"), (S,)), (("..##.", "..##."), (W, W, S, W)))
        self.check(samples, [("#.", ".#"), (".", "#")], ((1, 2), (2, 0)))

    def test_strips_in_strips(self):
        parts = parse_grammar('shape s { "##" ".#" } plain w white; across line = (s | w 1 to 2)*;'
                              " down page = (line 2 | w 1)*;")
        rows = ("#..##.", ".##..#", "......", ".##.##", "..####")
        line = ((0, 2, ()), (1, 1, ()), (0, 2, ()), (1, 1, ()))
        other = ((1, 1, ()), (0, 2, ()), (1, 1, ()), (0, 2, ()))
        reading = ((0, 2, line), (1, 1, ()), (0, 2, other))
        # The samples are #. .#, ## .., ## .# and ## ##.
        self.check(((rows, reading),), [("##", ".#")], ((0, 4),), parts)
        samples = (((".." * 3,) * 2 + rows[2:], reading),) * 2 + ((rows, reading),)
        self.check(samples, [("##", ".#")], ((0, 12),), parts)

    def test_samples_are_those_of_all_readings(self):
        for parts, region, _, _ in cases(71, 60):
            page = (len(parts) - 1, 0, 0) + region[3:]
            maker = Maker(sum(region))
            samples = []
            for _ in range(3):
                rows = maker.image(*region[3:])
                told = best(parts, page, rows, NO_WISHES)
                if told is not None:
                    samples.append((rows, told[1]))
            found = {number: [] for number in range(len(parts)) if parts[number][0] == "shape"}
            for rows, reading in samples:
                for one in regions_of(parts, page, reading):
                    if one[0] in found:
                        found[one[0]].append((one[1], one[2], rows))
            self.check(tuple(samples), [self.pattern(parts[number][4], found[number]) for number in found],
                       tuple((number, len(found[number])) for number in found), parts)

    def pattern(self, rows, found):
        if not found:
            return rows
        return tuple("".join(
            "#" if sum(black(image, left + x, top + y) for left, top, image in found) * 2 > len(found) else "."
            for x in range(len(rows[0]))) for y in range(len(rows)))

    def test_nothing_that_is_passed_is_changed(self):
        text = 'plain w white cost 5; shape s "S" cost 7 { "##" "##" } across page = (s cost 1 | w 1)*;'
        parts = parse_grammar(text)
        samples = ((("#.", ".#"), (S,)),)
        learned = train(parts, samples)[0]
        self.assertNotEqual(learned, parts)
        self.assertEqual((parts, samples), (parse_grammar(text), ((("#.", ".#"), (S,)),)))

    def test_the_sums_are_those_of_the_costs(self):
        rows = ("#.", ".#")
        learned, before, after, _ = train(PAIRS, ((rows, (S,)), (rows, (T, W))))
        page = (3, 0, 0, 2, 2)
        self.assertEqual(regions(PAIRS, page, (T, W)), [page, (2, 0, 0, 1, 2), (0, 1, 0, 1, 2)])
        self.assertEqual(before, cost(PAIRS, page, (S,), rows) + cost(PAIRS, page, (T, W), rows))
        self.assertEqual(after, cost(learned, page, (S,), rows) + cost(learned, page, (T, W), rows))
        self.assertEqual((before, after), (8 + 2 + 5 + 3, 8 + 5 + 1))


class Distance(unittest.TestCase):
    SHAPES = parse_grammar('shape a { "##" ".#" } shape b { "#." "##" } shape c { "##" } shape d { "#" "." }'
                           ' shape e { "..." } shape f { "#" } shape g { "." } plain w white;')

    def check(self, first, second, expected):
        with self.subTest(first=first, second=second):
            self.assertEqual(distance(self.SHAPES, first, second), expected)
            self.assertEqual(distance(self.SHAPES, second, first), expected)

    def test_the_same_size(self):
        self.check(0, 1, 2)
        self.check(5, 6, 1)

    def test_a_shape_and_itself(self):
        for number in range(7):
            self.check(number, number, 0)

    def test_different_sizes(self):
        for first, second in ((0, 2), (0, 3), (1, 2), (2, 3), (2, 4), (2, 5), (3, 5), (4, 6)):
            self.check(first, second, None)

    def test_the_number_is_0_for_the_same_patterns_of_different_shapes(self):
        parts = parse_grammar('shape a "x" cost 3 { "##" ".#" } shape b { "##" ".#" }')
        self.assertEqual(distance(parts, 0, 1), 0)
        self.assertIsNot(distance(parts, 0, 1), None)


if __name__ == "__main__":
    unittest.main()
