import unittest

from surelyread.signs import split

from tests.helpers import check_fault, fault_of


def without_places(text):
    return [(kind, value) for kind, value, _, _ in split(text)]


class Signs(unittest.TestCase):
    def test_example_of_the_document(self):
        self.assertEqual(split('a 07\n"x"""'), [
            ("word", "a", 1, 1), ("number", 7, 1, 3), ("quoted", 'x"', 2, 1), ("end", "", 2, 6)])

    def test_the_end(self):
        self.assertEqual(split(""), [("end", "", 1, 1)])
        self.assertEqual(split("   "), [("end", "", 1, 4)])
        self.assertEqual(split("\n"), [("end", "", 2, 1)])
        self.assertEqual(split("\n\n  "), [("end", "", 3, 3)])
        self.assertEqual(split("a"), [("word", "a", 1, 1), ("end", "", 1, 2)])

    def test_it_is_a_list_of_tuples(self):
        signs = split("a")
        self.assertIs(type(signs), list)
        self.assertIs(type(signs[0]), tuple)

    def test_words(self):
        for word in ("a", "z", "A", "Z", "az", "a_", "a1", "a_1_b", "x0123456789", "Z__9", "to",
                     "shape", "plain", "white", "black", "across", "down", "join", "cost"):
            with self.subTest(word=word):
                self.assertEqual(split(word), [("word", word, 1, 1), ("end", "", 1, len(word) + 1)])

    def test_every_letter(self):
        letters = "abcdefghijklmnopqrstuvwxyz"
        for letter in letters + letters.upper():
            with self.subTest(letter=letter):
                self.assertEqual(split(letter), [("word", letter, 1, 1), ("end", "", 1, 2)])
                self.assertEqual(without_places("z" + letter)[0], ("word", "z" + letter))
                self.assertEqual(
                    without_places("1" + letter)[:2], [("number", 1), ("word", letter)])
        for digit in "0123456789":
            self.assertEqual(without_places("a" + digit)[0], ("word", "a" + digit))
            self.assertEqual(without_places(digit)[0], ("number", int(digit)))

    def test_numbers(self):
        for text, number in (("0", 0), ("7", 7), ("007", 7), ("000000000", 0), ("000000012", 12),
                             ("123456789", 123456789), ("999999999", 999999999), ("10", 10)):
            with self.subTest(text=text):
                self.assertEqual(
                    split(text), [("number", number, 1, 1), ("end", "", 1, len(text) + 1)])
                self.assertIs(type(split(text)[0][1]), int)

    def test_symbols(self):
        signs = split(",;(){}=|*+?")
        self.assertEqual(
            signs[:-1], [("symbol", mark, 1, at + 1) for at, mark in enumerate(",;(){}=|*+?")])
        self.assertEqual(signs[-1], ("end", "", 1, 12))

    def test_spaces_and_newlines_between(self):
        self.assertEqual(split("  a\n\n ( 12\n"), [
            ("word", "a", 1, 3), ("symbol", "(", 3, 2), ("number", 12, 3, 4), ("end", "", 4, 1)])
        self.assertEqual(split("a(12)b"), [
            ("word", "a", 1, 1), ("symbol", "(", 1, 2), ("number", 12, 1, 3), ("symbol", ")", 1, 5),
            ("word", "b", 1, 6), ("end", "", 1, 7)])
        self.assertEqual(split('"x"a"y"1"z"'), [
            ("quoted", "x", 1, 1), ("word", "a", 1, 4), ("quoted", "y", 1, 5), ("number", 1, 1, 8),
            ("quoted", "z", 1, 9), ("end", "", 1, 12)])

    def test_a_word_behind_a_number(self):
        self.assertEqual(split("12ab"), [
            ("number", 12, 1, 1), ("word", "ab", 1, 3), ("end", "", 1, 5)])
        self.assertEqual(split("1to2"), [
            ("number", 1, 1, 1), ("word", "to2", 1, 2), ("end", "", 1, 5)])
        self.assertEqual(without_places("1 to 2")[:3], [("number", 1), ("word", "to"), ("number", 2)])

    def test_digits_and_underscores_belong_to_the_word(self):
        self.assertEqual(split("a12 b_3(c__"), [
            ("word", "a12", 1, 1), ("word", "b_3", 1, 5), ("symbol", "(", 1, 8),
            ("word", "c__", 1, 9), ("end", "", 1, 12)])

    def test_quoted_texts(self):
        for text, value in (('""', ""), ('"a"', "a"), ('"a b"', "a b"), ('""""', '"'),
                            ('"a""b"', 'a"b'), ('""""""', '""'), ('"a"""', 'a"'), ('"""a"', '"a'),
                            ('"a""""b"', 'a""b'), ('"#.,;(){}!~_&"', "#.,;(){}!~_&")):
            with self.subTest(text=text):
                self.assertEqual(
                    split(text), [("quoted", value, 1, 1), ("end", "", 1, len(text) + 1)])

    def test_quoted_texts_behind_one_another(self):
        self.assertEqual(without_places('"a" "b"')[:2], [("quoted", "a"), ("quoted", "b")])
        self.assertEqual(without_places('"a""b"')[:1], [("quoted", 'a"b')])
        self.assertEqual(without_places('"" ""')[:2], [("quoted", ""), ("quoted", "")])

    def test_newlines_in_quoted_texts(self):
        self.assertEqual(split('"a\nb" c\nd'), [
            ("quoted", "a\nb", 1, 1), ("word", "c", 2, 4), ("word", "d", 3, 1), ("end", "", 3, 2)])
        self.assertEqual(split(' "\n\n""";'), [
            ("quoted", '\n\n"', 1, 2), ("symbol", ";", 3, 4), ("end", "", 3, 5)])
        self.assertEqual(split('"a\n"'), [("quoted", "a\n", 1, 1), ("end", "", 2, 2)])

    def test_longest_words_and_numbers(self):
        word = "abcdefghij_123456789"
        self.assertEqual(split(word + " " + "9" * 9), [
            ("word", word, 1, 1), ("number", 999999999, 1, 22), ("end", "", 1, 31)])
        self.assertEqual(without_places("123456789a")[:2], [("number", 123456789), ("word", "a")])


class FaultsOfSigns(unittest.TestCase):
    def test_unexpected_characters(self):
        for text in ("@!", "@_a", "a @.", "a\n  @#", "12@_", "a @-1", "(@[", "a @'b'", "a@:", "@/",
                     "a @&", "a @<", "a @~", "a @\\", '"x"@_', '"\n"@!'):
            check_fault(self, split, text, "unexpected character")
        self.assertEqual(fault_of(split, "a @"), (1, 3, "unexpected character"))

    def test_every_character_with_which_no_sign_begins(self):
        for character in "!#$&'-./:<>@[\\]^_`~":
            with self.subTest(character=character):
                reason = "unexpected character"
                self.assertEqual(fault_of(split, character), (1, 1, reason))
                self.assertEqual(fault_of(split, "1" + character), (1, 2, reason))
                self.assertEqual(fault_of(split, "a\n ;" + character), (2, 3, reason))

    def test_names_too_long(self):
        for text in ("a" * 20 + "@a", "b" * 20 + "@b" * 1 + "b" * 9, "x\n " + "c" * 20 + "@9",
                     "d" * 20 + "@_ e", "12" + "f" * 20 + "@f"):
            check_fault(self, split, text, "name too long")

    def test_numbers_too_long(self):
        for text in ("1" * 9 + "@1", "0" * 9 + "@0", "000000000@7", "a " + "2" * 9 + "@345",
                     "x\n" + "3" * 9 + "@3x"):
            check_fault(self, split, text, "number too long")

    def test_quoted_texts_without_an_end(self):
        for text in ('"@', '"a@', 'a "b c@', '"a\n@', '"a\nb@', '"""@', '"a""@', '"" "@', '"!""@',
                     '"_ 0000000000 aaaaaaaaaaaaaaaaaaaaaaaaa@'):
            check_fault(self, split, text, "quoted text without an end")

    def test_the_first_fault_is_told(self):
        check_fault(self, split, "@! " + "a" * 21, "unexpected character")
        check_fault(self, split, "a" * 20 + "@a !", "name too long")
        check_fault(self, split, "1" * 9 + '@1 ! "', "number too long")
        check_fault(self, split, '@! "a', "unexpected character")
        check_fault(self, split, "a" * 20 + "@a " + "1" * 10, "name too long")
        check_fault(self, split, "1" * 9 + "@1 " + "a" * 21, "number too long")
        check_fault(self, split, "a" * 20 + '@a "', "name too long")

    def test_characters_within_quoted_texts_are_no_fault(self):
        self.assertEqual(without_places('"!_ 0000000000"')[0], ("quoted", "!_ 0000000000"))


if __name__ == "__main__":
    unittest.main()
