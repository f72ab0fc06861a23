import random
import unittest

from surelyread.errors import TooLarge
from surelyread.gaps import gap
from surelyread.grammars import parse_grammar
from tests.brute import count_of, drawn_black, leaves_of, machine_of, moves_cost_of, readings

# 0 i, 1 l, 2 g, 3 line
LETTERS = parse_grammar('shape i { "#" "." "#" } shape l { "#" "#" "#" } plain g white;'
                        " across line = (i | l), (g 1, (i | l))*;")


def region_of(parts, part, length, breadth):
    return (part, 0, 0) + ((length, breadth) if parts[part][0] == "across" else (breadth, length))


def price_of(parts, region, reading):
    leaves = leaves_of(parts, region, reading)
    return moves_cost_of(parts, region, reading) + sum(parts[leaf[0]][3] for leaf in leaves)


def blacks_of(parts, region, reading):
    """The pixels that the reading draws black."""
    return frozenset(
        (x, y) for leaf in leaves_of(parts, region, reading)
        for x in range(leaf[1], leaf[1] + leaf[3]) for y in range(leaf[2], leaf[2] + leaf[4])
        if drawn_black(parts[leaf[0]], leaf, x, y))


def entries_of(reading):
    """The entry of the reading at each line."""
    return [piece[:2] for piece in reading for _ in range(piece[1])]


def gap_of(parts, part, length, breadth):
    """The least gap and its first pair, told by all pairs."""
    region = region_of(parts, part, length, breadth)
    told = [(price_of(parts, region, one), blacks_of(parts, region, one), entries_of(one), one)
            for one in readings(parts, region)]
    pairs = [(two[0] + len(one[1] ^ two[1]) - one[0], list(zip(one[2], two[2])), one[3], two[3])
             for one in told for two in told if one[3] != two[3]]
    if not pairs:
        return None
    least = min(pairs, key=lambda pair: pair[:2])
    return (least[0], *least[2:])


def number_of(parts, part, length, breadth):
    """The number that must not be greater than 60."""
    ends, moves = machine_of(parts, part)
    total = len(ends)
    for _, _, inner, least, most, _ in moves:
        for size in range(least, min(most, length) + 1):
            piece = (inner, 0, 0) + region_of(parts, part, size, breadth)[3:]
            total += size - 1 if readings(parts, piece) else 0
    return total


class Shapes:
    """Makes grammars of leaves and one strip, the same ones in each run."""

    def __init__(self, seed):
        self.random = random.Random(seed)

    def cost(self):
        return self.random.choice(("", "", " cost 1", " cost 3"))

    def leaf(self, name, direction, breadth):
        if self.random.random() < 0.4:
            return f"plain {name} {self.random.choice(('white', 'black'))}{self.cost()};"
        width, height = self.random.randint(1, 3), breadth if self.random.random() < 0.9 else 2
        if direction == "down":
            width, height = height, width
        rows = ("".join(self.random.choice(".#") for _ in range(width)) for _ in range(height))
        return "shape " + name + self.cost() + " { " + " ".join(f'"{row}"' for row in rows) + " }"

    def place(self):
        sizes = self.random.choice(("", "", " 1", " 1 to 2", " 2 to 3"))
        return self.random.choice("abc") + sizes + self.cost()

    def expression(self, depth):
        kind = self.random.randint(0, 4) if depth else 0
        if kind == 0:
            return self.place()
        sign = ", " if kind == 1 else " | "
        items = [self.expression(depth - 1) for _ in range(self.random.randint(2, 3))]
        return "(" + sign.join(items) + ")" + self.random.choice(("", "*", "+", "?"))

    def grammar(self, breadth):
        direction = self.random.choice(("across", "down"))
        leaves = " ".join(self.leaf(name, direction, breadth) for name in "abc")
        return parse_grammar(f"{leaves} {direction} p = ({self.expression(2)})*;")


class Gap(unittest.TestCase):
    def check(self, parts, part, length, breadth, expected):
        with self.subTest(parts=parts, length=length, breadth=breadth):
            found = gap(parts, part, length, breadth)
            self.assertEqual(found, expected)
            if expected is not None:
                self.assertIs(type(found), tuple)

    def check_too_large(self, parts, part, length, breadth):
        with self.assertRaises(TooLarge) as caught:
            gap(parts, part, length, breadth)
        self.assertIs(type(caught.exception), TooLarge)
        self.assertEqual(caught.exception.reason, "strip")

    def test_example_of_the_document(self):
        first, second = ((0, 1, ()), (2, 1, ()), (3, 1, ())), ((0, 1, ()), (2, 1, ()), (4, 1, ()))
        self.check(LETTERS, 3, 3, 3, (1, first, second))
        self.check(LETTERS, 3, 2, 3, None)

    def test_against_all_pairs(self):
        shapes = Shapes(81)
        counts = {}
        while len(counts) < 36 or min(counts.values()) < 4:
            breadth = shapes.random.randint(1, 3)
            parts = shapes.grammar(breadth)
            length = shapes.random.randint(1, 6)
            many = count_of(parts, region_of(parts, 3, length, breadth))
            key = (parts[3][0], length, breadth)
            enough = counts.get(key, 0)
            if 2 <= many <= 60 and enough < 4:
                if number_of(parts, 3, length, breadth) <= 60:
                    self.check(parts, 3, length, breadth, gap_of(parts, 3, length, breadth))
                    counts[key] = enough + 1

    def test_no_two_readings(self):
        parts = parse_grammar('plain w white; shape s { "#" "#" } across p = w | s; down q = s?, w 2;')
        self.check(parts, 2, 1, 3, None)
        self.check(parts, 2, 2, 2, None)
        self.check(parts, 2, 1, 2, (2, ((0, 1, ()),), ((1, 1, ()),)))
        self.check(parts, 3, 4, 1, None)
        self.check(parts, 3, 2, 1, None)
        self.check(parts, 3, 3, 1, None)
        # Nothing fills the region, and just one reading does.
        self.check(LETTERS, 3, 3, 2, None)
        self.check(LETTERS, 3, 4, 3, None)
        self.check(parse_grammar("plain w white; across p = w;"), 1, 11, 16, None)

    def test_the_pair_that_is_told(self):
        # 00, 11 and their mixtures: all pairs of neighbours have the gap 2.
        parts = parse_grammar("plain w white; plain b black; across p = (w 1 | b 1)*;")
        w, b = (0, 1, ()), (1, 1, ())
        self.check(parts, 2, 3, 2, (2, (w, w, w), (w, w, b)))
        self.check(parts, 2, 1, 2, (2, (w,), (b,)))
        # The first reading of the pair that is told comes behind the second one in the order of readings.
        parts = parse_grammar("plain w white; plain b black cost 5; across p = (w 1 | b 1)*;")
        self.check(parts, 2, 2, 1, (-8, (b, b), (w, w)))
        # Two white pieces of 1 look as one of 2: the first line tells them apart.
        parts = parse_grammar("plain w white; down p = (w 1 to 2)*;")
        self.check(parts, 1, 2, 3, (0, ((0, 1, ()), (0, 1, ())), ((0, 2, ()),)))
        # At the second line (0, 1) of the first readings comes ahead, whatever the second ones have.
        self.check(parts, 1, 3, 3, (0, ((0, 1, ()),) * 3, ((0, 1, ()), (0, 2, ()))))

    def test_entries_of_the_first_readings_are_compared_first(self):
        # Pairs with the gap -7: (c, a) and (d, a) and (d, b) by their only line; c is ahead of d.
        parts = parse_grammar("plain a white; plain b white; plain c white cost 7; plain d white cost 7;"
                              " across p = (a 1 | b 1 | c 1 | d 1);")
        self.check(parts, 4, 1, 1, (-7, ((2, 1, ()),), ((0, 1, ()),)))

    def test_a_line_decides_ahead_of_the_next_one(self):
        # ac and bx look alike, and ad and ay; ac comes ahead of ad, but at its first line ay ahead of bx.
        parts = parse_grammar("plain a white; plain b white; plain c black cost 5; plain d white cost 5;"
                              " plain x black; plain y white;"
                              " across p = (a 1, (c 1 | d 1)) | (a 1, y 1) | (b 1, x 1);")
        pair = (((0, 1, ()), (4, 1, ())), ((1, 1, ()), (5, 1, ())))
        self.assertEqual(gap_of(parts, 6, 2, 1), (-5, *pair))
        self.check(parts, 6, 2, 1, (-5, *pair))

    def test_negative_gaps(self):
        parts = parse_grammar('plain w white cost 9; shape s cost 2 { ".#" } across p = (w | s cost 1)*;')
        self.check(parts, 2, 2, 1, (-14, ((0, 1, ()), (0, 1, ())), ((1, 2, ()),)))
        for length in range(1, 7):
            self.check(parts, 2, length, 1, gap_of(parts, 2, length, 1))

    def test_costs_of_leaves_and_moves(self):
        parts = parse_grammar("plain w white cost 4; plain b black cost 1000; across p = (w 3 cost 20 | b 3);")
        self.check(parts, 2, 3, 2, (24 + 6 - 1000, ((1, 3, ()),), ((0, 3, ()),)))

    def test_a_strip_that_is_not_the_page(self):
        parts = parse_grammar("plain w white; down p = (w 1 to 2)*; across q = p; plain b black;"
                              " across r = (b 1 | w 1)*;")
        self.check(parts, 1, 2, 1, (0, ((0, 1, ()), (0, 1, ())), ((0, 2, ()),)))
        self.check(parts, 4, 1, 3, (3, ((0, 1, ()),), ((1, 1, ()),)))


class Number(unittest.TestCase):
    check = Gap.check
    check_too_large = Gap.check_too_large

    def test_just_60(self):
        for text, length in (("(w 1 to 11 | b 5)*", 11), ("(w | b 5)*", 11), ("(b 3 to 4 | b 12 to 15 | s)*", 16)):
            for direction, pattern in (("across", '"#.." ' * 2), ("down", '"##" "#." ".#"')):
                head = f"plain w white; plain b black; shape s {{ {pattern} }} "
                parts = parse_grammar(f"{head}{direction} p = {text};")
                number = number_of(parts, 3, length, 2)
                more = parse_grammar(f"{head}{direction} p = {text[:-2]} | w {60 - number + 1})*;")
                self.assertEqual(number_of(more, 3, length, 2), 60)
                self.assertEqual(gap(more, 3, length, 2)[0] <= 0, True)
                more = parse_grammar(f"{head}{direction} p = {text[:-2]} | w {60 - number + 2})*;")
                self.assertEqual(number_of(more, 3, length, 2), 61)
                self.check_too_large(more, 3, length, 2)

    def test_plain_numbers(self):
        head = "plain w white; plain b black; across p = "
        # Sizes 1 to 11: 0 + 1 + .. + 10 is 55; one state; and 4 for the size 5.
        parts = parse_grammar(head + "(w 1 to 11 | b 5)*;")
        self.assertEqual(gap(parts, 2, 11, 1)[0], 0)
        self.check_too_large(parse_grammar(head + "(w 1 to 11 | b 6)*;"), 2, 11, 1)
        self.check_too_large(parse_grammar(head + "(w 1 to 11 | b 5 | b 2)*;"), 2, 11, 1)
        # A size of 1 adds nothing.
        self.assertEqual(gap(parse_grammar(head + "(w 1 to 11 | b 5 | b 1)*;"), 2, 11, 1)[0], 0)

    def test_states(self):
        # 36 and 15, and a state for the beginning and for each place.
        head = "plain w white; across p = w 1 to 9, w 1 to 6, "
        self.assertEqual(gap(parse_grammar(head + "w 1, w 1, w 1, w 1, w 1;"), 1, 12, 1)[0], 0)
        self.assertEqual(number_of(parse_grammar(head + "w 1, w 1, w 1, w 1, w 1;"), 1, 12, 1), 59)
        self.assertEqual(gap(parse_grammar(head + "w 1, w 1, w 1, w 1, w 2;"), 1, 12, 1)[0], 0)
        self.assertEqual(number_of(parse_grammar(head + "w 1, w 1, w 1, w 1, w 2;"), 1, 12, 1), 60)
        self.check_too_large(parse_grammar(head + "w 1, w 1, w 1, w 1, w 3;"), 1, 12, 1)

    def test_where_no_reading_fills_the_region(self):
        head = "plain w white; across p = w 9, w 9, w 9, w 9, w 9, w 9, "
        self.check(parse_grammar(head + "w 5;"), 1, 10, 1, None)
        self.check_too_large(parse_grammar(head + "w 6;"), 1, 10, 1)
        # Sizes beyond the length do not count.
        self.check(parse_grammar(head + "w 6;"), 1, 8, 1, None)
        self.check(parse_grammar(head + "w 11;"), 1, 10, 1, None)

    def test_sizes_beyond_the_length(self):
        parts = parse_grammar("plain w white; across p = w*;")
        self.assertEqual(number_of(parts, 1, 11, 1), 56)
        self.assertEqual(gap(parts, 1, 11, 1)[0], 0)
        self.check_too_large(parts, 1, 12, 1)

    def test_sizes_that_shapes_cannot_have(self):
        shapes = " ".join('shape %s { "%s" }' % (name, "#" * 15) for name in "abcde")
        parts = parse_grammar(shapes + " across p = (a 1 to 24 | b | c | d | e)*; down q = (a 1 to 24 | b)*;")
        # At the breadth 1: five times 14, and one state. At the breadth 2 nothing but the state.
        self.check_too_large(parts, 5, 15, 1)
        self.check(parts, 5, 15, 2, None)
        self.check(parts, 5, 14, 1, None)
        self.check(parts, 6, 16, 15, (0, ((0, 1, ()),) * 16, ((0, 1, ()),) * 15 + ((1, 1, ()),)))
        parts = parse_grammar(shapes + " across p = (a | b | c | d)*;")
        self.check(parts, 5, 15, 1, (0, ((0, 15, ()),), ((1, 15, ()),)))

    def test_large_strips_are_answered_soon(self):
        parts = parse_grammar("plain w white; plain b black; across p = (w 1 to 8 | b 1 to 8)*;")
        self.assertEqual(number_of(parts, 2, 16, 16), 57)
        pair = ((0, 1, ()),) * 16, ((0, 1, ()),) * 14 + ((0, 2, ()),)
        self.check(parts, 2, 16, 16, (0, *pair))


if __name__ == "__main__":
    unittest.main()
