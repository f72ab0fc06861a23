import random
import unittest

from surelyread.best import best
from surelyread.books import learn, one_turn
from surelyread.grammars import parse_grammar
from surelyread.learned import train
from tests.brute import NO_WISHES, Maker, cases, count_of, drawn_black, pixels_of, ranked, regions_of

PAIRS = parse_grammar('shape a { "##" "##" } across page = a+;')
A = (0, 2, ())
B = (1, 2, ())

# 0 a, 1 b, 2 gap, 3 page
LETTERS = parse_grammar('shape a cost 1 { "##" "#." } shape b { ".#" "##" } plain gap white;'
                        " across page = (a | b), (gap 1, (a | b))*;")


def page_of(parts, rows):
    return (len(parts) - 1, 0, 0, len(rows[0]), len(rows))


def trained_of(parts, samples):
    """The trained parts, told by the majority at each pixel."""
    seen = {}
    for rows, reading in samples:
        for region in regions_of(parts, page_of(parts, rows), reading):
            seen.setdefault(region[0], []).append([rows[y][x] for y in range(region[2], region[2] + region[4])
                                                   for x in range(region[1], region[1] + region[3])])
    trained = list(parts)
    for number, part in enumerate(parts):
        if part[0] == "shape" and number in seen:
            pixels = "".join("#" if column.count("#") * 2 > len(column) else "." for column in zip(*seen[number]))
            width = len(part[4][0])
            rows = tuple(pixels[at:at + width] for at in range(0, len(pixels), width))
            trained[number] = (*part[:4], rows)
    return tuple(trained)


def turn_of(parts, book):
    """One turn, told by all readings of each page."""
    found = [ranked(parts, page_of(parts, rows), rows, NO_WISHES) for rows in book]
    readings = tuple(pairs[0][1] if pairs else None for pairs in found)
    samples = [(rows, reading) for rows, reading in zip(book, readings) if reading is not None]
    return trained_of(parts, samples), sum(pairs[0][0] for pairs in found if pairs), readings


def blacks_of(parts):
    """How many black pixels the patterns have, all together."""
    return sum(row.count("#") for part in parts if part[0] == "shape" for row in part[4])


def book_at_random(chance, parts, many):
    """Pages of several sizes, most of them with a reading."""
    book = []
    while len(book) < many:
        rows = Maker(chance.randrange(10 ** 6)).image(chance.randint(1, 4), chance.randint(1, 3))
        found = count_of(parts, page_of(parts, rows))
        if found <= 60 and (found or chance.random() < 0.1):
            book.append(rows)
    return tuple(book)


def books(seed, many):
    """(parts, book) of small grammars that have shapes."""
    chance = random.Random(seed)
    found = []
    for parts, _, _, _ in cases(seed, 4 * many, most=4, limit=60):
        sizes = [(width, height) for width in range(1, 5) for height in range(1, 4)]
        good = [size for size in sizes if 0 < count_of(parts, (len(parts) - 1, 0, 0, *size)) <= 60]
        if len(found) < many and good and any(part[0] == "shape" for part in parts):
            found.append((parts, book_at_random(chance, parts, chance.randint(1, 5))))
    return found


def clusters(seed, many):
    """(parts, book) of shapes of one size that share the pages: learned in several turns."""
    chance = random.Random(seed)
    found = []
    for _ in range(many):
        maker = Maker(chance.randrange(10 ** 6))
        width, height, letters = chance.randint(2, 3), chance.randint(1, 3), "abc"[:chance.randint(2, 3)]
        shapes = ("shape " + name + " { " + " ".join(f'"{row}"' for row in maker.image(width, height)) + " } "
                  for name in letters)
        parts = parse_grammar("".join(shapes) + f"across page = ({' | '.join(letters)} cost 1)+;")
        found.append((parts, tuple(maker.image(width * chance.randint(1, 2), height)
                                   for _ in range(chance.randint(3, 8)))))
    return found


class Turn(unittest.TestCase):
    def check(self, parts, book, expected):
        with self.subTest(parts=parts, book=book):
            found = one_turn(parts, book)
            self.assertEqual(found, expected)
            self.assertIs(type(found), tuple)
            self.assertIs(type(found[2]), tuple)

    def test_plain_values(self):
        learned = (("shape", "a", "", 0, ("#.", "##")), PAIRS[1])
        self.check(PAIRS, (("#.#.", "####"), ("##", "#.")), (learned, 3, ((A, B), (A,))))
        self.check(learned, (("#.#.", "####"), ("##", "#.")), (learned, 2, ((A, B), (A,))))

    def test_a_page_that_has_no_reading(self):
        learned = (("shape", "a", "", 0, ("#.", "##")), PAIRS[1])
        for other in (("###", "###"), ("#",), ("##",), ("##", "##", "##")):
            self.check(PAIRS, (("#.", "##"), other), (learned, 1, ((A,), None)))
            self.check(PAIRS, (other, ("#.", "##"), other), (learned, 1, (None, (A,), None)))

    def test_a_book_without_any_reading(self):
        self.check(PAIRS, (("#.",), ("###", "..."), ("#",)), (PAIRS, 0, (None, None, None)))
        self.check(PAIRS, (), (PAIRS, 0, ()))

    def test_a_grammar_without_shapes(self):
        parts = parse_grammar("plain w white; plain b black cost 1; across page = (w 1 | b 1)*;")
        w, b = (0, 1, ()), (1, 1, ())
        self.check(parts, (("#.#",), (".", "#"), ("##", "##")),
                   (parts, 5, ((w, w, w), (w,), (b, b))))

    def test_the_best_reading_is_the_first_one(self):
        # Both shapes cost the same for the page: the first one is read, and trained.
        parts = parse_grammar('shape a { "##" } shape b { ".." } across page = a | b;')
        learned = (("shape", "a", "", 0, ("#.",)),) + parts[1:]
        self.check(parts, (("#.",),), (learned, 1, ((A,),)))

    def test_against_all_readings(self):
        for parts, book in books(141, 60) + clusters(151, 60):
            self.check(parts, book, turn_of(parts, book))

    def test_against_the_modules(self):
        for parts, book in books(142, 30):
            found = [best(parts, page_of(parts, rows), rows, NO_WISHES) for rows in book]
            samples = tuple((rows, one[1]) for rows, one in zip(book, found) if one is not None)
            learned, before, _, _ = train(parts, samples)
            self.check(parts, book, (learned, before, tuple(None if one is None else one[1] for one in found)))

    def test_the_order_of_the_pages(self):
        for parts, book in books(143, 30) + clusters(153, 40):
            trained, cost, readings = one_turn(parts, book)
            back = one_turn(parts, book[::-1])
            self.assertEqual(back, (trained, cost, readings[::-1]))
            self.assertEqual(learn(parts, book[::-1], 50)[:2], learn(parts, book, 50)[:2])

    def test_nothing_that_is_passed_is_changed(self):
        book = (("#.#.", "####"), ("##", "#."))
        one_turn(PAIRS, book)
        learn(PAIRS, book, 5)
        self.assertEqual(book, (("#.#.", "####"), ("##", "#.")))
        self.assertEqual(PAIRS, parse_grammar('shape a { "##" "##" } across page = a+;'))


class Learn(unittest.TestCase):
    def check(self, parts, book, most, expected):
        with self.subTest(parts=parts, book=book, most=most):
            found = learn(parts, book, most)
            self.assertEqual(found, expected)
            self.assertEqual([type(one) for one in found], [tuple, list, tuple, bool])

    def by_turns(self, parts, book, most):
        """What is learned, told by turns one by one."""
        costs = []
        for _ in range(most):
            trained, cost, readings = one_turn(parts, book)
            costs.append(cost)
            if trained == parts:
                return parts, costs, readings, True
            parts = trained
        return parts, costs, readings, False

    def test_example_of_the_document(self):
        learned = (("shape", "a", "", 0, ("#.", "##")), PAIRS[1])
        book = (("#.#.", "####"), ("##", "#."))
        self.check(PAIRS, book, 10, (learned, [3, 2], ((A, B), (A,)), True))
        self.check(PAIRS, book, 2, (learned, [3, 2], ((A, B), (A,)), True))
        self.check(PAIRS, book, 1, (learned, [3], ((A, B), (A,)), False))
        self.check(learned, book, 1, (learned, [2], ((A, B), (A,)), True))

    def test_readings_are_those_of_the_last_turn(self):
        # Behind the first turn a is .## and costs more than b for the last page.
        parts = parse_grammar('shape a { "###" } shape b { "#.." } across page = a | b;')
        a, b = ((0, 3, ()),), ((1, 3, ()),)
        book = (("###",), (".##",), (".##",), ("#.#",))
        first = one_turn(parts, book)
        self.assertEqual(first[2], (a, a, a, a))
        self.check(parts, book, 1, (first[0], [3], (a, a, a, a), False))
        learned = (("shape", "a", "", 0, (".##",)), ("shape", "b", "", 0, ("#.#",)), parts[2])
        self.check(parts, book, 9, (learned, [3, 2, 1], (a, a, a, b), True))
        self.check(parts, book, 2, (learned, [3, 2], (a, a, a, b), False))

    def test_against_turns_one_by_one(self):
        long = 0
        for parts, book in books(144, 40) + clusters(154, 80):
            for most in (1, 2, 3, 100):
                self.check(parts, book, most, self.by_turns(parts, book, most))
            long += len(learn(parts, book, 100)[1]) > 2
        self.assertGreater(long, 20)

    def test_costs_never_rise_and_books_are_settled(self):
        equal = 0
        for parts, book in books(145, 40) + clusters(155, 120):
            learned, costs, _, settled = learn(parts, book, 100)
            self.assertIs(settled, True)
            present = parts
            for at, cost in enumerate(costs[:-1]):
                trained = one_turn(present, book)[0]
                self.assertGreaterEqual(cost, costs[at + 1])
                self.assertNotEqual(trained, present)
                if cost == costs[at + 1]:
                    self.assertLess(blacks_of(trained), blacks_of(present))
                    equal += 1
                present = trained
            self.assertEqual(present, learned)
        self.assertGreater(equal, 5)

    def test_costs_that_stay_the_same(self):
        # Just half of the samples are black: the trained pattern is white there, and costs the same.
        parts = parse_grammar('shape a { "#" } across page = a+;')
        learned = (("shape", "a", "", 0, (".",)), parts[1])
        reading = ((0, 1, ()), (1, 1, ()))
        self.check(parts, (("#.",),), 9, (learned, [1, 1], (reading,), True))
        self.check(learned, (("#.",),), 9, (learned, [1], (reading,), True))

    def test_what_was_learned_is_learned_in_one_turn(self):
        for parts, book in books(146, 60) + clusters(156, 40):
            learned, costs, readings, _ = learn(parts, book, 100)
            self.check(learned, book, 100, (learned, costs[-1:], readings, True))
            self.check(learned, book, 1, (learned, costs[-1:], readings, True))

    def test_fewer_turns_are_the_beginning_of_more(self):
        for parts, book in books(147, 60) + clusters(157, 40):
            costs = learn(parts, book, 100)[1]
            for most in range(1, len(costs) + 2):
                told = learn(parts, book, most)
                self.assertEqual((told[1], told[3]), (costs[:most], most >= len(costs)))
                # Going on from there comes to the same.
                on = learn(told[0], book, 100)
                self.assertEqual(on[1], costs[-1:] if told[3] else costs[most:])
                self.assertEqual(on[0], learn(parts, book, 100)[0])

    def test_a_book_without_any_reading(self):
        self.check(PAIRS, (("#.",), ("###", "...")), 7, (PAIRS, [0], (None, None), True))
        self.check(PAIRS, (), 7, (PAIRS, [0], (), True))

    def test_pages_without_a_reading_stay_without(self):
        for parts, book in books(148, 60):
            self.assertEqual([reading is None for reading in learn(parts, book, 100)[2]],
                             [count_of(parts, page_of(parts, rows)) == 0 for rows in book])

    def test_no_other_patterns_are_cheaper(self):
        for parts, book in books(149, 40) + clusters(159, 40):
            learned, costs, readings, _ = learn(parts, book, 100)
            for number, part in enumerate(learned):
                if part[0] == "shape":
                    self.check_pattern(learned, number, book, readings)
            self.assertEqual(costs[-1], sum(ranked(learned, page_of(learned, rows), rows, NO_WISHES)[0][0]
                                            for rows, reading in zip(book, readings) if reading is not None))

    def check_pattern(self, parts, number, book, readings):
        """Checks that each pixel of a pattern is right for at least half of its samples."""
        wrong = {}
        many = 0
        for rows, reading in zip(book, readings):
            found = regions_of(parts, page_of(parts, rows), reading) if reading is not None else []
            for region in found:
                if region[0] == number:
                    many += 1
                    for x, y in pixels_of(region):
                        if drawn_black(parts[number], region, x, y) != (rows[y][x] == "#"):
                            at = (x - region[1], y - region[2])
                            wrong[at] = wrong.get(at, 0) + 1
        for count in wrong.values():
            self.assertLessEqual(2 * count, many)

    def test_wrong_pixels_in_a_book_of_letters(self):
        # Patterns are found again behind some wrong pixels, the wrong ones of the grammar included.
        book = (("#..##", "##.#."), ("##.#.", "#..##"), ("#..##", "##.##"), ("#..#.", "##.##"))
        learned, _, readings, settled = learn(LETTERS, book, 20)
        self.assertTrue(settled)
        self.assertEqual((learned[0][4], learned[1][4]), (("##", "#."), ("#.", "##")))
        self.assertEqual(readings[0], ((1, 2, ()), (2, 1, ()), (3, 2, ())))


if __name__ == "__main__":
    unittest.main()
