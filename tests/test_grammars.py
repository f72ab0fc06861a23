import unittest

from surelyread.errors import Fault
from surelyread.grammars import parse_grammar

from tests.helpers import check_fault, too_large_of

HEAD = 'plain a white; shape b { "#.#" "..." } '


def last(text):
    return parse_grammar(text)[-1]


def choice_of(text, direction="across"):
    """The expression of a strip behind the plain part 0 and the shape 1, 3 wide and 2 high."""
    return last(HEAD + direction + " p = " + text + ";")[3]


def a(cost=0):
    return ("place", 0, 1, 24, cost)


def b(cost=0):
    return ("place", 1, 3, 3, cost)


class Parts(unittest.TestCase):
    def test_example_of_the_document(self):
        text = "plain w white; plain b black cost 1; across page = (w 1 to 3 | b 1)*;"
        self.assertEqual(parse_grammar(text), (
            ("plain", "w", "", 0, False), ("plain", "b", "", 1, True),
            ("across", "page", "",
             ("any", ("choice", (("place", 0, 1, 3, 0), ("place", 1, 1, 1, 0)))))))

    def test_first_example_of_the_document(self):
        text = ('shape l "l" { "#." "#." "##" } shape t "t" { "##" ".#" ".#" } plain gap white;'
                " across line = (l | t), (gap 1, (l | t))*;"
                ' down page join "/" = line 3, (gap 1, line 3)*;')
        letters = ("choice", (("place", 0, 2, 2, 0), ("place", 1, 2, 2, 0)))
        gap = ("place", 2, 1, 1, 0)
        line = ("place", 3, 3, 3, 0)
        self.assertEqual(parse_grammar(text), (
            ("shape", "l", "l", 0, ("#.", "#.", "##")), ("shape", "t", "t", 0, ("##", ".#", ".#")),
            ("plain", "gap", "", 0, False),
            ("across", "line", "", ("sequence", (letters, ("any", ("sequence", (gap, letters)))))),
            ("down", "page", "/", ("sequence", (line, ("any", ("sequence", (gap, line))))))))

    def test_plain_parts(self):
        for text, part in (
                ("plain w white;", ("plain", "w", "", 0, False)),
                ("plain w black;", ("plain", "w", "", 0, True)),
                ('plain w white "x y";', ("plain", "w", "x y", 0, False)),
                ('plain w black "";', ("plain", "w", "", 0, True)),
                ("plain w white cost 7;", ("plain", "w", "", 7, False)),
                ("plain w white cost 0;", ("plain", "w", "", 0, False)),
                ('plain w black "l" cost 12;', ("plain", "w", "l", 12, True)),
                ('plain w black "a""\nb" cost 0012;', ("plain", "w", 'a"\nb', 12, True))):
            with self.subTest(text=text):
                self.assertEqual(parse_grammar(text), (part,))

    def test_the_colour_is_true_or_false(self):
        self.assertIs(last("plain w white;")[4], False)
        self.assertIs(last("plain w black;")[4], True)

    def test_shapes(self):
        for text, part in (
                ('shape s { "#" }', ("shape", "s", "", 0, ("#",))),
                ('shape s { "#." ".#" "##" }', ("shape", "s", "", 0, ("#.", ".#", "##"))),
                ('shape s "l" { "." }', ("shape", "s", "l", 0, (".",))),
                ('shape s "" { "." }', ("shape", "s", "", 0, (".",))),
                ('shape s cost 3 { "." "#" }', ("shape", "s", "", 3, (".", "#"))),
                ('shape s "l" cost 003 { "..." }', ("shape", "s", "l", 3, ("...",)))):
            with self.subTest(text=text):
                self.assertEqual(parse_grammar(text), (part,))

    def test_strips(self):
        for text, part in (
                ("across p = a;", ("across", "p", "", a())),
                ("down p = a;", ("down", "p", "\n", a())),
                ('across p join "x" = a;', ("across", "p", "x", a())),
                ('down p join "x" = a;', ("down", "p", "x", a())),
                ('across p join "" = a;', ("across", "p", "", a())),
                ('down p join "" = a;', ("down", "p", "", a())),
                ('across p join "\n" = a;', ("across", "p", "\n", a())),
                ('down p join "\n""" = a;', ("down", "p", '\n"', a()))):
            with self.subTest(text=text):
                self.assertEqual(last(HEAD + text), part)

    def test_numbers_of_parts(self):
        parts = parse_grammar(
            "plain z white; plain y black; across x = y, z; plain w white; down v = w, x, y, z;")
        self.assertEqual([part[1] for part in parts], ["z", "y", "x", "w", "v"])
        self.assertEqual([item[1] for item in parts[2][3][1]], [1, 0])
        self.assertEqual([item[1] for item in parts[4][3][1]], [3, 2, 1, 0])

    def test_the_page_can_be_any_part(self):
        self.assertEqual(parse_grammar("plain w white;"), (("plain", "w", "", 0, False),))
        self.assertEqual(
            last('plain w white; shape s { "#" }'), ("shape", "s", "", 0, ("#",)))

    def test_kinds_of_values(self):
        parts = parse_grammar(HEAD + "across p = (a, b | a)*;")
        self.assertIs(type(parts), tuple)
        self.assertTrue(all(type(part) is tuple for part in parts))
        self.assertIs(type(parts[1][4]), tuple)
        self.assertIs(type(parts[2][3][1][1]), tuple)

    def test_names_are_told_by_upper_and_lower_case(self):
        parts = parse_grammar("plain Shape white; plain shape_ black; plain s white; plain S black;")
        self.assertEqual([part[1] for part in parts], ["Shape", "shape_", "s", "S"])

    def test_signs_without_spaces(self):
        text = 'plain a white;shape b"x"cost 1{"#"}across p join"/"=(a 1to 2cost 3|b)*,b?;'
        self.assertEqual(parse_grammar(text), (
            ("plain", "a", "", 0, False), ("shape", "b", "x", 1, ("#",)),
            ("across", "p", "/", ("sequence", (
                ("any", ("choice", (("place", 0, 1, 2, 3), ("place", 1, 1, 1, 0)))),
                ("maybe", ("place", 1, 1, 1, 0)))))))


class Places(unittest.TestCase):
    def test_sizes_that_are_missing(self):
        parts = parse_grammar(
            HEAD + "across c = a; across p = a, b, c; down q = a, b, c, p;")
        self.assertEqual(parts[3][3][1], (
            ("place", 0, 1, 24, 0), ("place", 1, 3, 3, 0), ("place", 2, 1, 24, 0)))
        self.assertEqual(parts[4][3][1], (
            ("place", 0, 1, 24, 0), ("place", 1, 2, 2, 0), ("place", 2, 1, 24, 0),
            ("place", 3, 1, 24, 0)))

    def test_one_size(self):
        for direction in ("across", "down"):
            parts = parse_grammar(HEAD + "down c = a; " + direction + " p = a 5, b 6, c 007;")
            self.assertEqual(parts[3][3][1], (
                ("place", 0, 5, 5, 0), ("place", 1, 6, 6, 0), ("place", 2, 7, 7, 0)))

    def test_two_sizes(self):
        for direction in ("across", "down"):
            parts = parse_grammar(
                HEAD + "down c = a; " + direction + " p = a 1 to 2, b 02 to 0004, c 7 to 7, a 1 to 24;")
            self.assertEqual(parts[3][3][1], (
                ("place", 0, 1, 2, 0), ("place", 1, 2, 4, 0), ("place", 2, 7, 7, 0),
                ("place", 0, 1, 24, 0)))

    def test_costs(self):
        self.assertEqual(choice_of("a cost 5, b cost 0, a 2 cost 007, a 1 to 3 cost 9")[1], (
            a(5), b(), ("place", 0, 2, 2, 7), ("place", 0, 1, 3, 9)))

    def test_the_same_part_twice(self):
        self.assertEqual(choice_of("a, a"), ("sequence", (a(), a())))


class Expressions(unittest.TestCase):
    def check(self, text, expression):
        with self.subTest(text=text):
            self.assertEqual(choice_of(text), expression)

    def test_one_is_that_one(self):
        self.check("a", a())
        self.check("(a)", a())
        self.check("((((a))))", a())

    def test_sequences_and_choices(self):
        self.check("a, b, a", ("sequence", (a(), b(), a())))
        self.check("a | b | a", ("choice", (a(), b(), a())))
        self.check("a, b | b, a", ("choice", (("sequence", (a(), b())), ("sequence", (b(), a())))))
        self.check("a | b, a", ("choice", (a(), ("sequence", (b(), a())))))

    def test_brackets(self):
        self.check("(a, b), a", ("sequence", (("sequence", (a(), b())), a())))
        self.check("a, (b, a)", ("sequence", (a(), ("sequence", (b(), a())))))
        self.check("(a | b) | a", ("choice", (("choice", (a(), b())), a())))
        self.check("a | (b | a)", ("choice", (a(), ("choice", (b(), a())))))
        self.check("(a | b), a", ("sequence", (("choice", (a(), b())), a())))
        self.check("a | (b, a)", ("choice", (a(), ("sequence", (b(), a())))))
        self.check("(a, b)", ("sequence", (a(), b())))
        self.check("((a | b))", ("choice", (a(), b())))
        self.check("((a, b)), ((a))", ("sequence", (("sequence", (a(), b())), a())))

    def test_repeats(self):
        for mark, kind in (("*", "any"), ("+", "some"), ("?", "maybe")):
            self.check("a" + mark, (kind, a()))
            self.check("(a)" + mark, (kind, a()))
            self.check("(a" + mark + ")", (kind, a()))
            self.check("a 2 to 3 cost 4" + mark, (kind, ("place", 0, 2, 3, 4)))
            self.check("a cost 4 " + mark, (kind, a(4)))
            self.check("(a, b)" + mark, (kind, ("sequence", (a(), b()))))
            self.check("(a | b)" + mark, (kind, ("choice", (a(), b()))))
            self.check("a, b" + mark, ("sequence", (a(), (kind, b()))))
            self.check("a" + mark + " | b", ("choice", ((kind, a()), b())))
            for other, outer in (("*", "any"), ("+", "some"), ("?", "maybe")):
                self.check("(a" + mark + ")" + other, (outer, (kind, a())))

    def test_the_same_in_down(self):
        high = ("place", 1, 2, 2, 0)
        self.assertEqual(
            choice_of("(a, b)+ | b?", "down"),
            ("choice", (("some", ("sequence", (a(), high))), ("maybe", high))))


class Faults(unittest.TestCase):
    def check(self, text, reason):
        check_fault(self, parse_grammar, text, reason)

    def test_unexpected_signs_at_the_beginning_of_a_part(self):
        for text in ("@", " \n @", "@w", "@12", '@"shape"', "@;", "@cost", "@white",
                     "plain w white;@;", "plain w white; @w", "plain w white; @to",
                     'plain w white; @"plain"', "plain w white;\n@7"):
            self.check(text, "unexpected sign")

    def test_unexpected_signs_in_plain_parts(self):
        for text in ("plain@", "plain @;", "plain @1", 'plain @"w"', "plain w@", "plain w\n@",
                     "plain w @;", "plain w @green;", "plain w @cost 1;", 'plain w @"white";',
                     "plain w white@", "plain w white @white;", "plain w white @1;",
                     'plain w white "x" @"y";', 'plain w white cost 1 @"x";', "plain w white cost@",
                     "plain w white cost @;", 'plain w white cost @"1";', "plain w white cost @x;",
                     "plain w white cost 1 @cost 2;", "plain w white cost 1 @2;", "plain w white @,",
                     "plain w white @}", 'plain w white "x" @', 'plain w white @{ "#" }',
                     "plain w white @join;", "plain w white @= w;"):
            self.check(text, "unexpected sign")

    def test_unexpected_signs_in_shapes(self):
        for text in ("shape@", "shape @{", "shape s@", "shape s @;", "shape s @white;",
                     'shape s "l" @"#" }', 'shape s "l"@', "shape s { @}", "shape s {@",
                     "shape s { @x }", "shape s { @1 }", "shape s { @; }", 'shape s { "#" @; }',
                     'shape s { "#" @, "#" }', 'shape s { "#"@', 'shape s { "#" @)', 'shape s { "#" @x }',
                     'shape s cost @{ "#" }', 'shape s cost 1 @"l" { "#" }', 'shape s cost 1 @2 { "#" }',
                     'shape s "{" @"#" "}"', 'shape s { "#" }@;', 'shape s { "#" } @"x"',
                     'shape s { "#" @{', 'shape s @= { "#" }'):
            self.check(text, "unexpected sign")

    def test_unexpected_signs_in_strips(self):
        for text in ("across@", "across @=", "across @1", "across p@", "across p @a;", "across p @;",
                     "across p join@", "across p join @= a;", "across p join @x = a;",
                     'across p join "x"@', 'across p join "x" @"y" = a;', 'across p join "x" @a;',
                     'across p @"x" = a;', "across p @cost 1 = a;", "across p =@", "across p = @;",
                     "across p = @1;", 'across p = @"a";', "across p = @| a;", "across p = @, a;",
                     "across p = @*;", "across p = @);", "across p = a@", "across p = a @a;",
                     'across p = a @"x";', "across p = a @);", "across p = a @(a);", "across p = a @=;",
                     "across p = a @};", "across p = a,@", "across p = a, @;", "across p = a |@",
                     "across p = a | @;", "across p = a | @| a;", "across p = (@", "across p = (@);",
                     "across p = (a@", "across p = (a @;", "across p = (a, @);", "across p = (a | @);",
                     "across p = (a) @a;", "across p = (a) @1;", "across p = (a) @cost 1;",
                     "across p = a* @*;", "across p = a+ @*;", "across p = a? @+;", "across p = (a)* @?;",
                     "across p = a* @1;", "across p = a* @cost 1;", "across p = a* @a;",
                     "across p = (a | (a, a) @;", "down p @to = a;", "down p = @;"):
            self.check(HEAD + text, "unexpected sign")

    def test_unexpected_signs_in_places(self):
        for text in ("across p = a @to 2;", "across p = a 1 @2;", "across p = a 1 to@",
                     "across p = a 1 to @;", "across p = a 1 to @a;", 'across p = a 1 to @"2";',
                     "across p = a 1 to 2 @to 3;", "across p = a 1 to 2 @3;", "across p = a cost@",
                     "across p = a cost @;", "across p = a cost @a;", "across p = a cost 1 @1;",
                     "across p = a cost 1 @cost 2;", "across p = a cost 1 @to 2;", "across p = a 1@",
                     "across p = a 1 to 2@", "across p = a 1 cost 2@"):
            self.check(HEAD + text, "unexpected sign")

    def test_quoted_texts_are_no_words_and_symbols(self):
        for text in ('plain w white "l" @";"', 'plain @"w" white;', 'plain w @"white";',
                     'plain w white cost @"1";', 'plain w white "" @"cost" 1;',
                     'shape s "l" @"{" "#" }', 'across p @"=" a;', 'across p @"join" "x" = a;',
                     'across p = a@";"', 'across p = @"(" a);', 'across p = (a @")";',
                     'across p = a @"," a;', 'across p = a @"|" a;', 'across p = a@"*";',
                     'across p = a@"+";', 'across p = a@"?";', 'across p = a 1 @"to" 2;',
                     'across p = a @"cost" 2;', '@"across" p = a;', 'across p = @"a";'):
            self.check(HEAD + text, "unexpected sign")

    def test_reserved_words_where_a_name_is_due(self):
        for word in ("shape", "plain", "white", "black", "across", "down", "join", "cost", "to"):
            self.check("shape @" + word + ' { "#" }', "unexpected sign")
            self.check("plain @" + word + " white;", "unexpected sign")
            self.check("across @" + word + " = a;", "unexpected sign")
            self.check("down @" + word + " = a;", "unexpected sign")
            self.check(HEAD + "across p = @" + word + ";", "unexpected sign")
            self.check(HEAD + "down p = (a, @" + word + ");", "unexpected sign")

    def test_names_already_used(self):
        for text in ("plain w white; plain @w black;", 'plain w white; shape @w { "#" }',
                     "plain w white; across @w = w;", "plain w white; down @w = w;",
                     'shape s { "#" } plain x white; plain @s white;',
                     "plain w white; across p = w; down @p = w;", "plain w white; plain\n@w green"):
            self.check(text, "name already used")

    def test_unknown_names(self):
        for text in ("across p = @p;", "across p = @q;", "across p = a, @p;", "across p = @A;",
                     "across p = (a | @p)*;", "across p = @q; plain q white;", "down p = @c 1 to",
                     "across c = a; across p = @d; across d = c;", "across p = a;\ndown q = p, @q;"):
            self.check(HEAD + text, "unknown name")

    def test_numbers_of_places(self):
        for text in ("across p = a @0;", "across p = a @000;", "across p = b @0 to 3;",
                     "across p = a 1, a @0 cost 1;", "down p = a @0 to 0;"):
            self.check(HEAD + text, "number must be at least 1")
        for text in ("across p = a 2 to @1;", "across p = a 1 to @0;", "across p = b 24 to @23;",
                     "down p = a 0005 to\n @0004;", "across p = a 1 to 2, a 3 to @2;"):
            self.check(HEAD + text, "number too small")
        self.assertEqual(choice_of("a cost 0"), a())

    def test_rows_of_patterns(self):
        for text in ('shape s { @"" }', 'shape s { @"#x" }', 'shape s { @"x" }', 'shape s { @" " }',
                     'shape s { @"#\n" }', 'shape s { @"##\n##" }', 'shape s { "##" @"" }',
                     'shape s { "##" @"#x" }', 'shape s { "##" @"x" }', 'shape s { "##" @"#.#x" }',
                     'shape s { "#" "." @"""" }', 'shape s {\n  @"#0"'):
            self.check(text, "not a row of pixels")
        for code in range(32, 127):
            if chr(code) not in '.#"@' and code != 37:
                self.check('shape s { "#." @"#' + chr(code) + '" }', "not a row of pixels")
        for text in ('shape s { "##" @"#" }', 'shape s { "#" @"##" }', 'shape s { ".." ".." @"." }',
                     'shape s { "." @".."', 'shape s { "#.#"\n@"#.##"\n"" }'):
            self.check(text, "row of another length")

    def test_the_first_fault_is_told(self):
        self.check("plain w @green; plain w white;", "unexpected sign")
        self.check("plain w white; plain @w green;", "name already used")
        self.check(HEAD + "across p = a @0 to 0, q;", "number must be at least 1")
        self.check(HEAD + "across p = a 2 to @1, q;", "number too small")
        self.check(HEAD + "across p = @q, a 0;", "unknown name")
        self.check('shape s { @"" "#" "##" }', "not a row of pixels")
        self.check('shape s { "#" @"##" "" }', "row of another length")

    def test_faults_of_signs_come_ahead(self):
        self.check("plain w green; @!", "unexpected character")
        self.check("; " + "a" * 20 + "@a", "name too long")
        self.check("; " + "1" * 9 + "@1", "number too long")
        self.check('; "@', "quoted text without an end")


def brackets(count):
    return "(" * count + "a" + ")" * count


def parts(count):
    return "".join("plain p" + str(at) + " white;" for at in range(count))


def strips(count):
    return "".join("across s" + str(at) + " = a;" for at in range(count))


def groups(*sizes):
    """Rows of groups behind one another: 1 state for each, and moves to each later place."""
    return ", ".join("(" + " | ".join(["a"] * size) + ")*" for size in sizes)


def pattern(width, height):
    return "{ " + " ".join(['"' + "#" * width + '"'] * height) + " } "


class Bounds(unittest.TestCase):
    def check(self, text, reason):
        with self.subTest(text=text[:200]):
            self.assertEqual(too_large_of(parse_grammar, text), reason)

    def check_strip(self, choice, reason):
        self.check(HEAD + "across p = " + choice + ";", reason)

    def test_text(self):
        text = "plain w white;"
        self.check(text + " " * (4000 - len(text)), None)
        self.check(text + " " * (4001 - len(text)), "text")
        self.check(text + "\n" * (4000 - len(text)), None)
        self.check(text + "\n" * (4001 - len(text)), "text")
        self.check('plain w white "' + "x" * 3983 + '";', None)
        self.check('plain w white "' + "x" * 3984 + '";', "text")

    def test_brackets(self):
        self.check_strip(brackets(30), None)
        self.check_strip(brackets(31), "brackets")
        self.check_strip(brackets(30) + ", " + brackets(30), None)
        self.check_strip(brackets(30) + ", " + brackets(31), "brackets")
        self.check('plain a white "' + "(" * 40 + '";', None)
        # An open bracket of an earlier strip is still open.
        self.check("plain a white; across p = (a; " + "(" * 30, "brackets")
        check_fault(self, parse_grammar, "plain a white; across p = (a @" + "(" * 29, "unexpected sign")

    def test_brackets_are_not_counted_below_0(self):
        self.check(")))) " + "(" * 31, "brackets")
        check_fault(self, parse_grammar, "@)))) " + "(" * 30, "unexpected sign")
        self.check("()))) " + "(" * 31, "brackets")
        self.check('")" ' + "(" * 31, "brackets")
        self.check("(" * 30 + '")" (', "brackets")
        check_fault(self, parse_grammar, "@" + "(" * 30 + '"("', "unexpected sign")
        check_fault(self, parse_grammar, "@" + '"(" ' * 40, "unexpected sign")
        check_fault(self, parse_grammar, "@" + "(" * 30 + ") (", "unexpected sign")
        self.check("(" * 30 + ") ((", "brackets")

    def test_parts(self):
        self.check(parts(12), None)
        self.check(parts(13), "parts")

    def test_strips(self):
        self.check("plain a white;" + strips(4), None)
        self.check("plain a white;" + strips(5), "strips")
        self.check("plain a white;" + strips(3) + "down d = a; plain e black;", None)
        self.check("plain a white;" + strips(4) + "down d = a; plain e black;", "strips")

    def test_costs(self):
        self.check("plain w white cost 1000;", None)
        self.check("plain w white cost 1001;", "cost")
        self.check('shape s cost 1000 { "#" }', None)
        self.check('shape s cost 1001 { "#" }', "cost")
        self.check_strip("a cost 1000", None)
        self.check_strip("a cost 1001", "cost")
        self.check_strip("a, (b | a cost 999999999)*", "cost")
        self.check("plain w white cost 999999999; plain v white;", "cost")

    def test_patterns(self):
        self.check("shape s " + pattern(16, 16), None)
        self.check("shape s " + pattern(17, 1), "pattern")
        self.check("shape s " + pattern(1, 17), "pattern")
        self.check("shape s " + pattern(17, 17) + " plain w white;", "pattern")
        self.check("shape s " + pattern(16, 1) + " across p = s;", None)

    def test_sizes(self):
        self.check_strip("a 24", None)
        self.check_strip("a 25", "size")
        self.check_strip("a 1 to 24", None)
        self.check_strip("a 1 to 25", "size")
        self.check_strip("a 24 to 24", None)
        self.check_strip("a 25 to 25", "size")
        self.check_strip("a, (b | b 30)", "size")
        self.check(HEAD + "down p = b 25;", "size")

    def test_places(self):
        self.check_strip(" | ".join(["a"] * 12), None)
        self.check_strip(" | ".join(["a"] * 13), "places")
        self.check(HEAD + "across p = " + " | ".join(["a"] * 12) + "; down q = "
                   + " | ".join(["a"] * 12) + ";", None)

    def test_states(self):
        self.check_strip(", ".join(["a"] * 7), None)
        self.check_strip(", ".join(["a"] * 8), "states")

    def test_moves(self):
        self.check_strip(groups(1, 2, 1, 8), None)
        self.check_strip(groups(1, 1, 2, 8), "moves")

    def test_text_comes_first(self):
        for text in ("! ", '" ', "a" * 30 + " ", "(" * 31 + " ", "; ", parts(13)):
            self.check(text + " " * (4001 - len(text)), "text")

    def test_faults_of_signs_come_ahead_of_brackets(self):
        check_fault(self, parse_grammar, "(" * 31 + " @!", "unexpected character")
        check_fault(self, parse_grammar, "(" * 31 + ' "@', "quoted text without an end")
        check_fault(self, parse_grammar, "(" * 31 + "a" * 20 + "@a", "name too long")

    def test_brackets_come_ahead_of_the_rules(self):
        self.check("; " + "(" * 31, "brackets")
        self.check("plain w green; " + brackets(31), "brackets")
        self.check_strip(brackets(31) + " a", "brackets")
        self.check_strip("q, " + brackets(31), "brackets")
        self.check(parts(13) + "(" * 31, "brackets")

    def test_the_rules_come_ahead_of_all_others(self):
        check_fault(self, parse_grammar, parts(13) + "@;", "unexpected sign")
        check_fault(self, parse_grammar, parts(13) + "plain @p3 white;", "name already used")
        check_fault(self, parse_grammar, "plain a white;" + strips(5) + "across x = @y;", "unknown name")
        check_fault(self, parse_grammar, "plain w white cost 1001@", "unexpected sign")
        check_fault(self, parse_grammar, HEAD + "across p = a 25, a cost 1001 @a;", "unexpected sign")
        check_fault(self, parse_grammar, HEAD + "across p = a 25 to @24;", "number too small")
        check_fault(self, parse_grammar, 'shape s { "' + "#" * 17 + '" @"#" }', "row of another length")
        check_fault(self, parse_grammar, HEAD + "across p = " + "a, " * 20 + "@;", "unexpected sign")

    def test_parts_strips_and_then_each_part(self):
        self.check("plain a white;" + strips(5) + parts(7), "parts")
        self.check("plain a white cost 1001;" + parts(12), "parts")
        self.check("plain a white cost 1001;" + strips(5), "strips")
        self.check("shape a " + pattern(17, 1) + strips(5), "strips")

    def test_the_order_within_a_part(self):
        self.check("shape s cost 1001 " + pattern(17, 17), "cost")
        self.check_strip("a 25, a cost 1001", "cost")
        self.check_strip("a cost 1001 | " + " | ".join(["a"] * 13), "cost")
        self.check_strip("a 25 | " + " | ".join(["a"] * 13), "size")
        self.check_strip(", ".join(["a"] * 7 + ["a 25"]), "size")
        self.check_strip(", ".join(["a"] * 13), "places")
        self.check_strip("(" + ", ".join(["a?"] * 13) + ")*", "places")
        # 13 states and 78 moves, 12 places.
        self.check_strip(", ".join(["a?"] * 12), "states")

    def test_the_order_of_the_parts(self):
        self.check("shape s " + pattern(17, 1) + " plain w white cost 1001;", "pattern")
        self.check("plain w white cost 1001; shape s " + pattern(17, 1), "cost")
        self.check(HEAD + "across p = a 25; plain w white cost 1001;", "size")
        self.check(HEAD + "across p = " + ", ".join(["a"] * 8) + "; across q = a 25;", "states")
        self.check(HEAD + "across p = " + groups(1, 1, 2, 8) + "; shape s " + pattern(1, 17), "moves")
        self.check(HEAD + "across p = " + " | ".join(["a"] * 13) + "; across q = a cost 1001;", "places")

    def test_a_fault_is_no_too_large(self):
        with self.assertRaises(Fault):
            parse_grammar("")


if __name__ == "__main__":
    unittest.main()
