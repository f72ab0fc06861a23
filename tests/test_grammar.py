import random
import unittest

from surelyread.drawing import cost, draw
from surelyread.errors import BadReading, Fault, TooLarge
from surelyread.grammar import Grammar
from surelyread.grammars import parse_grammar
from surelyread.pixels import image_text
from surelyread.readings import leaves, price, regions, text_of, to_integers
from surelyread.writing import grammar_text
from tests.brute import Maker, cases, cost_of, leaves_of, moves_cost_of, readings, regions_of
from tests.helpers import fault_of, too_large_of

INK = "plain w white; plain b black cost 1; across page = (w 1 to 3 | b 1)*;"

LETTERS = ('shape l "l" { "#." "#." "##" } shape t "t" cost 2 { "##" ".#" ".#" } plain gap white;'
           " across line = (l | t cost 3), (gap 1, (l | t))*; down page join \"/\" = line 3, (gap 1, line 3)*;")
# Two lines of letters and a gap between them.
LT = [0, 2, 2, 1, 4, 2, -1]
TL = [1, 2, 2, 1, 3, 2, -1]
LETTER_PAGE = [0, 3, *LT, 1, 1, 2, 3, *TL, -1]


class Told(unittest.TestCase):
    def test_parts_text_and_names(self):
        for text in (INK, LETTERS, "plain a black;", 'shape s "x" { "#" }', " across\np=a"):
            if text.startswith(" "):
                text = "plain a white cost 0;" + text + " 1 to 1;"
            grammar = Grammar(text)
            self.assertEqual(grammar.parts, parse_grammar(text))
            self.assertIs(type(grammar.parts), tuple)
            self.assertEqual(grammar.text(), grammar_text(parse_grammar(text)))
            self.assertEqual(grammar.names(), [part[1] for part in parse_grammar(text)])
            self.assertEqual(Grammar(grammar.text()).parts, grammar.parts)

    def test_plain_values(self):
        grammar = Grammar(INK)
        self.assertEqual(grammar.names(), ["w", "b", "page"])
        self.assertEqual(grammar.text(), "plain w white;\nplain b black cost 1;\n"
                                         "across page = (w 1 to 3 | b 1)*;\n")
        self.assertEqual(grammar.regions([0, 2, 1, 1, -1], 3, 1),
                         [(2, 0, 0, 3, 1), (0, 0, 0, 2, 1), (1, 2, 0, 1, 1)])
        self.assertEqual(grammar.leaves([0, 2, 1, 1, -1], 3, 1), [(0, 0, 0, 2, 1), (1, 2, 0, 1, 1)])
        self.assertEqual(grammar.draw([0, 2, 1, 1, -1], 3, 2), "..#\n..#\n")
        self.assertEqual(grammar.text_of([0, 2, 1, 1, -1], 3, 2), "")
        self.assertEqual(grammar.price([0, 2, 1, 1, -1], 3, 2), 1)
        self.assertEqual(grammar.cost([0, 2, 1, 1, -1], "###\n..."), 1 + 2 + 1)

    def test_strips_in_strips(self):
        grammar = Grammar(LETTERS)
        self.assertEqual(grammar.text_of(LETTER_PAGE, 5, 7), "lt/tl")
        self.assertEqual(grammar.draw(LETTER_PAGE, 5, 7),
                         "#..##\n#...#\n##..#\n.....\n##.#.\n.#.#.\n.#.##\n")
        self.assertEqual(grammar.price(LETTER_PAGE, 5, 7), 2 + 2 + 3)
        self.assertEqual(grammar.leaves(LETTER_PAGE, 5, 7), [
            (0, 0, 0, 2, 3), (2, 2, 0, 1, 3), (1, 3, 0, 2, 3), (2, 0, 3, 5, 1),
            (1, 0, 4, 2, 3), (2, 2, 4, 1, 3), (0, 3, 4, 2, 3)])
        self.assertEqual(grammar.cost(LETTER_PAGE, ".....\n" * 7), 7 + 4 + 4 + 4 + 4)

    def test_a_leaf_as_the_page(self):
        grammar = Grammar('plain w white "x" cost 3;')
        self.assertEqual(grammar.regions([], 4, 2), [(0, 0, 0, 4, 2)])
        self.assertEqual(grammar.leaves([], 4, 2), [(0, 0, 0, 4, 2)])
        self.assertEqual((grammar.text_of([], 4, 2), grammar.price([], 4, 2)), ("x", 3))
        self.assertEqual((grammar.draw([], 4, 2), grammar.cost([], "#.#")), ("....\n....\n", 5))
        grammar = Grammar('shape s "x" cost 3 { "#." }')
        self.assertEqual((grammar.draw([], 2, 1), grammar.cost([], ".#")), ("#.\n", 5))
        for width, height in ((1, 1), (2, 2), (3, 1)):
            with self.assertRaises(BadReading):
                grammar.draw([], width, height)

    def test_wrong_texts(self):
        for text in ("", "plain w white", "plain w white; plain w black;", 'shape s { "." "##" }', "plain $"):
            self.assertNotEqual(fault_of(Grammar, text), None)
            self.assertEqual(fault_of(Grammar, text), fault_of(parse_grammar, text))
        for text in ("plain w white;" + " " * 4000, "plain w white cost 1001;"):
            self.assertIn(too_large_of(Grammar, text), ("text", "cost"))
            self.assertEqual(too_large_of(Grammar, text), too_large_of(parse_grammar, text))


class Methods(unittest.TestCase):
    def check_answers(self, parts, integers, reading, region, rows):
        grammar = Grammar(grammar_text(parts))
        width, height = region[3:]
        with self.subTest(parts=parts, integers=integers, size=(width, height)):
            self.assertEqual(grammar.regions(integers, width, height), regions_of(parts, region, reading))
            self.assertEqual(grammar.regions(integers, width, height), regions(parts, region, reading))
            self.assertEqual(grammar.leaves(integers, width, height), leaves_of(parts, region, reading))
            self.assertEqual(grammar.leaves(integers, width, height), leaves(parts, region, reading))
            self.assertEqual(grammar.text_of(integers, width, height), text_of(parts, region, reading))
            self.assertEqual(grammar.draw(integers, width, height), image_text(draw(parts, region, reading)))
            told = grammar.price(integers, width, height)
            self.assertEqual(told, price(parts, region, reading))
            self.assertEqual(told, moves_cost_of(parts, region, reading) + sum(
                parts[leaf[0]][3] for leaf in leaves_of(parts, region, reading)))
            self.assertEqual(grammar.cost(integers, image_text(rows)), cost(parts, region, reading, rows))
            self.assertEqual(grammar.cost(integers, image_text(rows)), cost_of(parts, region, reading, rows))

    def check_refused(self, parts, integers, width, height):
        grammar = Grammar(grammar_text(parts))
        with self.subTest(parts=parts, integers=integers, size=(width, height)):
            for call in (grammar.regions, grammar.leaves, grammar.text_of, grammar.draw, grammar.price):
                with self.assertRaises(BadReading):
                    call(integers, width, height)
            with self.assertRaises(BadReading):
                grammar.cost(integers, (("." * width) + "\n") * height)

    def test_against_the_modules(self):
        chance = random.Random(91)
        refused = 0
        for parts, region, _, _ in cases(91, 60, limit=40):
            page = (len(parts) - 1, 0, 0) + region[3:]
            rows = Maker(sum(page)).image(*page[3:])
            told = {tuple(to_integers(reading)): reading for reading in readings(parts, page)}
            for integers, reading in list(told.items())[:4]:
                self.check_answers(parts, list(integers), reading, page, rows)
                changes = self.changed(list(integers))
                for wrong in chance.sample(changes, min(20, len(changes))):
                    if tuple(wrong) in told:
                        self.check_answers(parts, wrong, told[tuple(wrong)], page, rows)
                    else:
                        self.check_refused(parts, wrong, *page[3:])
                        refused += 1
        self.assertGreater(refused, 500)

    def changed(self, integers):
        """The integers with one changed, left out or put in, and cut off."""
        found = [integers[:at] for at in range(len(integers))]
        for at in range(len(integers) + 1):
            for value in (-2, -1, 0, 1, 2, 3, 24, 99):
                found.append(integers[:at] + [value] + integers[at:])
                if at < len(integers) and value != integers[at]:
                    found.append(integers[:at] + [value] + integers[at + 1:])
            if at < len(integers):
                found.append(integers[:at] + integers[at + 1:])
        return found

    def test_each_change_of_a_page(self):
        parts = parse_grammar(LETTERS)
        page = (4, 0, 0, 5, 7)
        told = {tuple(to_integers(reading)): reading for reading in readings(parts, page)}
        self.assertEqual(len(told), 16)
        self.check_answers(parts, LETTER_PAGE, told[tuple(LETTER_PAGE)], page, (".#..#",) * 7)
        for wrong in self.changed(LETTER_PAGE):
            if tuple(wrong) in told:
                self.check_answers(parts, wrong, told[tuple(wrong)], page, (".#..#",) * 7)
            else:
                self.check_refused(parts, wrong, 5, 7)

    def test_other_sizes(self):
        parts = parse_grammar(LETTERS)
        for width, height in ((5, 6), (4, 7), (7, 5), (1, 1), (16, 16)):
            self.check_refused(parts, LETTER_PAGE, width, height)

    def test_large_pages(self):
        parts = parse_grammar("plain w white cost 7; plain b black; down page = (w 1 | b 1)*;")
        page = (2, 0, 0, 16, 16)
        reading = ((0, 1, ()), (1, 1, ())) * 8
        self.check_answers(parts, [0, 1, 1, 1] * 8 + [-1], reading, page, ("#." * 8,) * 16)


class Cost(unittest.TestCase):
    def test_a_wrong_image_comes_first(self):
        grammar = Grammar(INK)
        for integers in ([0, 1, -1], [0, 1], [], [7, 7, 7, -1]):
            for text, fault in (("", (1, 1, "not a row of pixels")), ("#x", (1, 2, "unexpected character")),
                                (".\n..", (2, 2, "row of another length"))):
                self.assertEqual(fault_of(lambda told: grammar.cost(integers, told), text), fault)
            for text in ("." * 17, ".\n" * 17):
                self.assertEqual(too_large_of(lambda told: grammar.cost(integers, told), text), "image")
        with self.assertRaises(Fault):
            grammar.cost([0, 1, -1], "." * 17 + "x")

    def test_then_the_integers(self):
        grammar = Grammar(INK)
        self.assertEqual(grammar.cost([0, 1, -1], "."), 0)
        for integers in ([0, 1], [], [0, 2, -1], [0, 1, -1, -1], [7, 7, 7, -1]):
            with self.assertRaises(BadReading):
                grammar.cost(integers, ".")
        with self.assertRaises(BadReading):
            grammar.cost([0, 1, -1], "..")

    def test_errors_are_of_no_other_class(self):
        grammar = Grammar(INK)
        for integers, text, kind in (([0, 1, -1], "x", Fault), ([0, 1, -1], "#" * 17, TooLarge),
                                     ([0, 1], ".", BadReading)):
            with self.assertRaises(kind) as caught:
                grammar.cost(integers, text)
            self.assertIs(type(caught.exception), kind)


class Kept(unittest.TestCase):
    def test_integers_are_not_changed(self):
        grammar = Grammar(INK)
        integers = [0, 2, 1, 1, -1]
        for call in (grammar.regions, grammar.leaves, grammar.text_of, grammar.draw, grammar.price):
            call(integers, 3, 1)
        grammar.cost(integers, "...")
        self.assertEqual(integers, [0, 2, 1, 1, -1])

    def test_what_is_returned_is_new(self):
        grammar = Grammar(INK)
        grammar.names().append("x")
        self.assertEqual(grammar.names(), ["w", "b", "page"])
        grammar.regions([0, 1, -1], 1, 1).clear()
        self.assertEqual(len(grammar.regions([0, 1, -1], 1, 1)), 2)


if __name__ == "__main__":
    unittest.main()
