import unittest

from surelyread.grammars import parse_grammar
from surelyread.writing import grammar_text

HEAD = 'plain a white;\nshape b {\n  "#.#"\n  "..."\n}\n'


def a(least=1, most=24, cost=0):
    return ("place", 0, least, most, cost)


def b():
    return ("place", 1, 3, 3, 0)


class PartsAsTexts(unittest.TestCase):
    def check(self, text, normal):
        with self.subTest(text=text):
            parts = parse_grammar(text)
            self.assertEqual(grammar_text(parts), normal)
            self.assertEqual(parse_grammar(normal), parts)
            self.assertEqual(grammar_text(parse_grammar(normal)), normal)

    def check_strip(self, text, normal):
        self.check(HEAD + text, HEAD + normal)

    def test_example_of_the_document(self):
        self.check('shape a { "#" } down p = ((a | a cost 2)), a 1, (a)+;',
                   'shape a {\n  "#"\n}\ndown p = (a | a cost 2), a, a+;\n')

    def test_first_example_of_the_document(self):
        self.check(
            'shape l "l" { "#." "#." "##" } shape t "t" { "##" ".#" ".#" } plain gap white;'
            " across line = (l | t), (gap 1, (l | t))*;"
            ' down page join "/" = line 3, (gap 1, line 3)*;',
            'shape l "l" {\n  "#."\n  "#."\n  "##"\n}\nshape t "t" {\n  "##"\n  ".#"\n  ".#"\n}\n'
            "plain gap white;\nacross line = (l | t), (gap 1, (l | t))*;\n"
            'down page join "/" = line 3, (gap 1, line 3)*;\n')

    def test_plain_parts(self):
        self.check("plain w white ;", "plain w white;\n")
        self.check("plain\nw\nblack;", "plain w black;\n")
        self.check('plain w white"";', "plain w white;\n")
        self.check('plain w white"x";', 'plain w white "x";\n')
        self.check("plain w white cost 0;", "plain w white;\n")
        self.check("plain w white cost 007;", "plain w white cost 7;\n")
        self.check('plain w black "x" cost 10;', 'plain w black "x" cost 10;\n')
        self.check("plain w white;plain v black;", "plain w white;\nplain v black;\n")

    def test_shapes(self):
        self.check('shape s{"#"}', 'shape s {\n  "#"\n}\n')
        self.check('shape s "" cost 0 {"#." ".."}', 'shape s {\n  "#."\n  ".."\n}\n')
        self.check('shape s"x"{"#"}', 'shape s "x" {\n  "#"\n}\n')
        self.check('shape s cost 3{"#"}', 'shape s cost 3 {\n  "#"\n}\n')
        self.check('shape s "x" cost 03 {"#"}', 'shape s "x" cost 3 {\n  "#"\n}\n')

    def test_quotation_marks_and_newlines_in_labels(self):
        self.check('plain w white """";', 'plain w white """";\n')
        self.check('plain w white "a""b\n""";', 'plain w white "a""b\n""";\n')
        self.check('shape s "\n" {"#"}', 'shape s "\n" {\n  "#"\n}\n')
        self.check('shape s """ ;{" {"#"}', 'shape s """ ;{" {\n  "#"\n}\n')

    def test_joints(self):
        self.check_strip("across p = a;", "across p = a;\n")
        self.check_strip("down p = a;", "down p = a;\n")
        self.check_strip('across p join "" = a;', "across p = a;\n")
        self.check_strip('down p join "\n" = a;', "down p = a;\n")
        self.check_strip('across p join "\n" = a;', 'across p join "\n" = a;\n')
        self.check_strip('down p join "" = a;', 'down p join "" = a;\n')
        self.check_strip('across p join"x"= a;', 'across p join "x" = a;\n')
        self.check_strip('down p join """\n" = a;', 'down p join """\n" = a;\n')

    def test_sizes_of_plain_parts_and_strips(self):
        for direction in ("across", "down"):
            head = direction + " c = a;\n" + direction + " p = "
            for text, normal in (
                    ("a 1 to 24", "a"), ("c 1 to 24", "c"), ("a 1", "a 1"), ("a 1 to 1", "a 1"),
                    ("a 24", "a 24"), ("a 2 to 24", "a 2 to 24"), ("a 1 to 23", "a 1 to 23"),
                    ("a 007", "a 7"), ("a 05 to 0007", "a 5 to 7"), ("c 3 to 3", "c 3")):
                self.check_strip(head + text + ";", head + normal + ";\n")

    def test_sizes_of_shapes(self):
        for text, normal in (("b", "b"), ("b 3", "b"), ("b 3 to 3", "b"), ("b 2", "b 2"),
                             ("b 2 to 3", "b 2 to 3"), ("b 1 to 24", "b 1 to 24"), ("b 03", "b")):
            self.check_strip("across p = " + text + ";", "across p = " + normal + ";\n")
        for text, normal in (("b", "b"), ("b 2", "b"), ("b 2 to 2", "b"), ("b 3", "b 3"),
                             ("b 2 to 3", "b 2 to 3"), ("b 1 to 24", "b 1 to 24")):
            self.check_strip("down p = " + text + ";", "down p = " + normal + ";\n")

    def test_costs_of_places(self):
        for text, normal in (("a cost 0", "a"), ("a cost 01", "a cost 1"), ("b 3 cost 2", "b cost 2"),
                             ("a 2 cost 3", "a 2 cost 3"), ("a 2 to 5 cost 1000", "a 2 to 5 cost 1000"),
                             ("a 1 cost 3 *", "a 1 cost 3*")):
            self.check_strip("across p = " + text + ";", "across p = " + normal + ";\n")

    def test_spaces(self):
        self.check_strip("across p=a|b,a;", "across p = a | b, a;\n")
        self.check_strip("across p=( ( a | b ) , a ) * ;", "across p = ((a | b), a)*;\n")
        self.check_strip("across p=(a|(a|b))+|b?;", "across p = (a | (a | b))+ | b?;\n")

    def test_brackets_that_could_be_missing(self):
        for text, normal in (
                ("((a))", "a"), ("(a)*", "a*"), ("((a)*)", "a*"), ("(a, b)", "a, b"),
                ("((a | b))", "a | b"), ("(a*), (b+)", "a*, b+"), ("(a, b) | (b?)", "a, b | b?"),
                ("(a 2 cost 3)?", "a 2 cost 3?")):
            self.check_strip("across p = " + text + ";", "across p = " + normal + ";\n")

    def test_each_kind_of_expression_inside_each_other_one(self):
        within = {
            "choice": {"choice": "(a | b) | a", "sequence": "a, b | a", "any": "a* | a",
                       "some": "a+ | a", "maybe": "a? | a", "place": "a | a"},
            "sequence": {"choice": "(a | b), a", "sequence": "(a, b), a", "any": "a*, a",
                         "some": "a+, a", "maybe": "a?, a", "place": "a, a"}}
        for mark, kind in (("*", "any"), ("+", "some"), ("?", "maybe")):
            within[kind] = {"choice": "(a | b)" + mark, "sequence": "(a, b)" + mark,
                            "any": "(a*)" + mark, "some": "(a+)" + mark, "maybe": "(a?)" + mark,
                            "place": "a" + mark}
        inner = {"choice": ("choice", (a(), b())), "sequence": ("sequence", (a(), b())),
                 "any": ("any", a()), "some": ("some", a()), "maybe": ("maybe", a()), "place": a()}
        head = parse_grammar(HEAD)
        for outer in within:
            for kind in within[outer]:
                whole = (outer, (inner[kind], a())) if outer in ("choice", "sequence") else (
                    outer, inner[kind])
                with self.subTest(outer=outer, kind=kind):
                    parts = head + (("across", "p", "", whole),)
                    text = HEAD + "across p = " + within[outer][kind] + ";\n"
                    self.assertEqual(grammar_text(parts), text)
                    self.assertEqual(parse_grammar(text), parts)

    def test_second_items(self):
        for normal in ("a, (b, a)", "a | (b | a)", "a, (b | a)", "a | b, a", "a, b*, (a, b)+, (a | b)?",
                       "((a, b)*)?", "((a | b, a), b)*", "(((a*)*)+)?"):
            self.check_strip("across p = " + normal + ";", "across p = " + normal + ";\n")

    def test_deep_expressions(self):
        choice = a(2, 3, 4)
        for depth in range(30):
            choice = (("any", "some", "maybe")[depth % 3], choice)
            choice = ("choice", (choice, b())) if depth < 5 else choice
        parts = parse_grammar(HEAD) + (("across", "p", "", choice),)
        self.assertEqual(parse_grammar(grammar_text(parts)), parts)

    def test_the_normal_text_is_a_string_and_leaves_the_parts(self):
        parts = parse_grammar(HEAD)
        self.assertIs(type(grammar_text(parts)), str)
        self.assertEqual(grammar_text(parts), HEAD)
        self.assertEqual(parts, parse_grammar(HEAD))


if __name__ == "__main__":
    unittest.main()
